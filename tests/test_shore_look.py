"""sh_get, sh_find, sh_of, sh_gaps and sh_state: promise 4."""

import unittest

from tests.helper import (
    GREATEST, MOST_VALUE, ask, call_of, check_leaves_all, check_shore_refused, differing, find, gaps, get, kept_of,
    last, shore_answer, shore_hear, shore_hears, shore_probe, shore_start, shore_state,
)

STARTED = [shore_start()]
FIVE = STARTED + shore_hears(1, [2, 0]) + shore_hears(3, [29]) + shore_hears(0, [0]) + shore_hears(1, [2, 4])
ALL = STARTED + [one for k in range(4) for one in shore_hears(k, range(30))]
EACH_PLACE = (4, 5, 255, 256, GREATEST - 1, GREATEST)


def got(message):
    """What sh_get answers of a call that was told so."""
    return [message[3], message[1], message[2], message[4], message[5]]


class GetTest(unittest.TestCase):
    def test_in_the_order_in_which_they_came(self):
        order = [differing(1, 2), differing(1, 0), differing(3, 29), differing(0, 0), differing(1, 4)]
        looked = ask(FIVE + [get(i) for i in range(5)])[-5:]
        self.assertEqual(looked, [got(message) for message in order])

    def test_each_number_in_its_place(self):
        calls = STARTED + [shore_hear(call_of(3, 28, 9, MOST_VALUE, 0)), get(0)]
        self.assertEqual(last(calls), [9, 3, 28, MOST_VALUE, 0])

    def test_the_last_one_and_one_behind_it(self):
        self.assertEqual(last(FIVE + [get(4)]), got(differing(1, 4)))
        check_shore_refused(self, FIVE, get(5), -2)
        self.assertEqual(last(ALL + [get(119)]), got(differing(3, 29)))
        check_shore_refused(self, ALL, get(120), -2)

    def test_nothing_kept(self):
        check_shore_refused(self, STARTED, get(0), -2)

    def test_the_greatest_number(self):
        for before in (STARTED, FIVE, ALL):
            check_shore_refused(self, before, get(GREATEST), -2)

    def test_all_that_there_can_be(self):
        for numbers in (range(30), range(29, -1, -1)):
            calls = STARTED + [one for number in numbers for k in (2, 0, 3, 1) for one in shore_hears(k, [number])]
            looked = ask(calls + [get(i) for i in range(120)])[-120:]
            self.assertEqual(looked, [got(differing(k, number)) for number in numbers for k in (2, 0, 3, 1)])


class FindTest(unittest.TestCase):
    def test_each_as_it_was_told(self):
        looked = ask(FIVE + [find(1, 0), find(1, 2), find(3, 29), find(0, 0), find(1, 4)])[-5:]
        self.assertEqual(looked, [differing(k, i)[3:] for k, i in ((1, 0), (1, 2), (3, 29), (0, 0), (1, 4))])

    def test_all_that_there_can_be(self):
        pairs = [(k, i) for k in range(4) for i in range(30)]
        self.assertEqual(ask(ALL + [find(k, i) for k, i in pairs])[-120:], [differing(k, i)[3:] for k, i in pairs])

    def test_not_kept(self):
        for k, i in ((1, 1), (1, 3), (1, 5), (1, 29), (2, 0), (2, 2), (3, 0), (3, 28), (0, 1), (0, 4)):
            check_shore_refused(self, FIVE, find(k, i), -6)

    def test_nothing_kept(self):
        for k in range(4):
            check_shore_refused(self, STARTED, find(k, 0), -6)

    def test_thirty_and_above(self):
        for before in (STARTED, FIVE, ALL):
            for i in (30, 31, 60, 256, GREATEST):
                for k in (0, 3):
                    check_shore_refused(self, before, find(k, i), -6)

    def test_caller_above_three(self):
        for before in (FIVE, ALL):
            for k in EACH_PLACE:
                check_shore_refused(self, before, find(k, 0), -2)

    def test_caller_above_three_is_told_ahead_of_not_kept(self):
        for before in (STARTED, FIVE, ALL):
            for k in (4, GREATEST):
                for i in (1, 30, GREATEST):
                    check_shore_refused(self, before, find(k, i), -2)


class OfTest(unittest.TestCase):
    def test_which_are_kept(self):
        looked = ask(FIVE + [kept_of(k) for k in range(4)])[-4:]
        self.assertEqual(looked, [[1, 1], [3, 0b10101], [0, 0], [1, 1 << 29]])

    def test_each_number(self):
        for number in range(30):
            self.assertEqual(last(STARTED + shore_hears(2, [number]) + [kept_of(2)]), [1, 1 << number])

    def test_no_gap(self):
        for count in range(31):
            self.assertEqual(last(STARTED + shore_hears(0, range(count)) + [kept_of(0)]), [count, (1 << count) - 1])

    def test_all_that_there_can_be(self):
        self.assertEqual(ask(ALL + [kept_of(k) for k in range(4)])[-4:], [[30, (1 << 30) - 1]] * 4)

    def test_caller_above_three(self):
        for before in (STARTED, FIVE, ALL):
            for k in EACH_PLACE:
                check_shore_refused(self, before, kept_of(k), -2)


class GapsTest(unittest.TestCase):
    def test_which_are_missing(self):
        looked = ask(FIVE + [gaps(k) for k in range(4)])[-4:]
        self.assertEqual(looked, [[0, 0], [2, 0b1010], [0, 0], [29, (1 << 29) - 1]])

    def test_no_gap(self):
        for count in range(31):
            self.assertEqual(last(STARTED + shore_hears(0, range(count)) + [gaps(0)]), [0, 0])

    def test_one_alone(self):
        for number in range(30):
            calls = STARTED + shore_hears(3, [number]) + [gaps(3)]
            self.assertEqual(last(calls), [number, (1 << number) - 1])

    def test_gaps_beyond_what_an_answer_tells(self):
        calls = STARTED + shore_hears(2, [0, 1, 3, 15, 20, 22]) + [gaps(2)]
        missing = [2] + list(range(4, 15)) + [16, 17, 18, 19, 21]
        self.assertEqual(last(calls), [len(missing), sum(1 << number for number in missing)])

    def test_each_one_missing(self):
        for number in range(30):
            calls = STARTED + shore_hears(1, [i for i in range(30) if i != number]) + [gaps(1)]
            self.assertEqual(last(calls), [1, 1 << number] if number < 29 else [0, 0])

    def test_a_later_one_of_another_caller_makes_no_gap(self):
        calls = STARTED + shore_hears(1, [0]) + shore_hears(2, [9]) + [gaps(1), gaps(0)]
        self.assertEqual(ask(calls)[-2:], [[0, 0], [0, 0]])

    def test_gap_that_is_closed(self):
        calls = STARTED + shore_hears(1, [3]) + [gaps(1)]
        for number, answer in ((1, [2, 0b101]), (2, [1, 0b1]), (0, [0, 0])):
            calls += shore_hears(1, [number]) + [gaps(1)]
            self.assertEqual(last(calls), answer)

    def test_all_that_there_can_be(self):
        self.assertEqual(ask(ALL + [gaps(k) for k in range(4)])[-4:], [[0, 0]] * 4)

    def test_caller_above_three(self):
        for before in (STARTED, FIVE, ALL):
            for k in EACH_PLACE:
                check_shore_refused(self, before, gaps(k), -2)


class ShoreStateTest(unittest.TestCase):
    def test_kept_and_heard_again(self):
        self.assertEqual(last(STARTED + [shore_state()]), [0, 0])
        self.assertEqual(last(FIVE + [shore_state()]), [5, 1])
        self.assertEqual(last(ALL + [shore_state()]), [120, 0])

    def test_heard_again_of_different_callers_is_one_count(self):
        calls = ALL + shore_hears(0, [0, 0, 1]) + shore_hears(3, [29]) + shore_hears(2, [4, 4]) + [shore_state()]
        self.assertEqual(last(calls), [120, 6])

    def test_refused_ones_count_nowhere(self):
        refused = [shore_hear(call_of(1, 2, 9, 9, 9)), shore_hear(call_of(1, 2, 10)), shore_hear(call_of(4, 2))]
        self.assertEqual(last(FIVE + refused + [shore_state()]), [5, 1])


class ShoreLookTest(unittest.TestCase):
    def test_looking_changes_nothing(self):
        looks = [
            (get(2), got(differing(3, 29))), (find(1, 4), differing(1, 4)[3:]), (kept_of(1), [3, 0b10101]),
            (gaps(1), [2, 0b1010]), (shore_state(), [5, 1]), (shore_answer(1), [1, 2, 1, 1, 0b101, 0, 0]),
        ]
        for look, answer in looks:
            check_leaves_all(self, FIVE, look, answer, shore_probe())


if __name__ == "__main__":
    unittest.main()
