"""sh_start and sh_hear: promise 3, with 'Messages' (what a call is) and the row ahead of the promises."""

import unittest

from calledshores.radio import Shore, sh_hear, sh_state
from tests.helper import (
    GREATEST, MOST_VALUE, answer_to, ask, call_of, check_leaves_all, check_shore_refused, differing, find, gaps, get,
    kept_of, last, shore_answer, shore_hear, shore_hears, shore_probe, shore_start, shore_state,
)

STARTED = [shore_start()]
SEVEN = STARTED + shore_hears(1, [2, 0, 5]) + shore_hears(3, [0, 1]) + shore_hears(0, [29, 7])
ALL = STARTED + [one for k in range(4) for one in shore_hears(k, range(30))]
USED = SEVEN + shore_hears(1, [0, 5, 0])

# Each is a call of caller 1, number 2, but for one number that makes it none.
NO_CALLS = [
    [0, 1, 2, 3, 4, 5], [2, 1, 2, 3, 4, 5], [3, 1, 2, 3, 4, 5], [GREATEST, 1, 2, 3, 4, 5],
    [1, 4, 2, 3, 4, 5], [1, 5, 2, 3, 4, 5], [1, GREATEST, 2, 3, 4, 5],
    [1, 1, 30, 3, 4, 5], [1, 1, 31, 3, 4, 5], [1, 1, GREATEST, 3, 4, 5],
    [1, 1, 2, 0, 4, 5], [1, 1, 2, 10, 4, 5], [1, 1, 2, GREATEST, 4, 5],
    [1, 1, 2, 3, MOST_VALUE + 1, 5], [1, 1, 2, 3, GREATEST, 5],
    [1, 1, 2, 3, 4, MOST_VALUE + 1], [1, 1, 2, 3, 4, GREATEST],
    [0] * 6, [GREATEST] * 6,
]


class ShoreStartTest(unittest.TestCase):
    def test_nothing_is_kept(self):
        self.assertEqual(ask(STARTED + [shore_state(), get(0)]), [[0], [0, 0], [-2]])
        for k in range(4):
            calls = STARTED + [shore_answer(k), find(k, 0), kept_of(k), gaps(k)]
            self.assertEqual(ask(calls)[1:], [[0, 2, k, 0, 0, 0, 0], [-6], [0, 0], [0, 0]])

    def test_start_again_makes_all_new(self):
        for used in (STARTED, USED, ALL):
            again = ask(used + STARTED + shore_probe())[len(used):]
            self.assertEqual(again, ask(STARTED + shore_probe()))

    def test_start_again_forgets_what_was_heard_again(self):
        self.assertEqual(ask(USED + [shore_state()] + STARTED + [shore_state()])[-3:], [[7, 3], [0], [0, 0]])

    def test_started_again_keeps_a_call_as_it_is_heard_now(self):
        calls = USED + STARTED + [shore_hear(call_of(1, 2, 9, 8, 7)), find(1, 2), shore_state()]
        self.assertEqual(ask(calls)[-3:], [[1, 1], [9, 8, 7], [1, 0]])


class ShoreHearTest(unittest.TestCase):
    def check_kept_now(self, before, message):
        """The message is heard as a call that wasn't kept yet, and is kept behind the others."""
        count = last(before + [shore_state()])[0]
        calls = before + [shore_hear(message), get(count), find(message[1], message[2])]
        self.assertEqual(ask(calls)[-3:], [
            [1, count + 1], [message[3], message[1], message[2], message[4], message[5]], message[3:],
        ])

    def test_first_call(self):
        self.check_kept_now(STARTED, call_of(2, 4, 6, 8, 10))

    def test_how_many_are_kept_then(self):
        self.assertEqual(ask(SEVEN), [[0]] + [[1, count] for count in range(1, 8)])

    def test_edges_of_each_number_of_a_call(self):
        for before in (STARTED, SEVEN):
            for k in range(4):
                self.check_kept_now(before, call_of(k, 28))
            for number in (3, 28):
                self.check_kept_now(before, call_of(2, number))
            self.check_kept_now(before, call_of(2, 0))
            self.check_kept_now(before, call_of(2, 29))
            for kind in range(1, 10):
                self.check_kept_now(before, call_of(2, 1, kind))
            for x, y in ((0, 0), (MOST_VALUE, 0), (0, MOST_VALUE), (MOST_VALUE, MOST_VALUE)):
                self.check_kept_now(before, call_of(2, 1, 5, x, y))

    def test_what_is_not_a_call_is_refused(self):
        for before in (STARTED, SEVEN):
            for message in NO_CALLS:
                check_shore_refused(self, before, shore_hear(message), -71)

    def test_an_answer_is_no_call(self):
        for message in (answer_to(0, 0), answer_to(1, 2, 3), last(SEVEN + [shore_answer(1)])[1:]):
            check_shore_refused(self, SEVEN, shore_hear(message), -71)

    def test_the_greatest_number_in_each_place(self):
        for place in range(6):
            message = differing(2, 2)
            message[place] = GREATEST
            check_shore_refused(self, SEVEN, shore_hear(message), -71)

    def test_heard_again_just_as_it_was(self):
        calls = SEVEN + shore_hears(1, [2]) + shore_hears(0, [7]) + shore_hears(3, [1])
        self.assertEqual(ask(calls)[-3:], [[0, 7]] * 3)

    def test_heard_again_is_not_kept_twice(self):
        for message in (differing(1, 2), differing(0, 29), differing(0, 7)):
            again = SEVEN + [shore_hear(message)]
            rest = [one for one in shore_probe() if one != shore_state()]
            check_leaves_all(self, SEVEN, shore_hear(message), [0, 7], rest)
            self.assertEqual(last(again + [shore_state()]), [7, 1])

    def test_heard_again_after_many_others(self):
        self.assertEqual(last(ALL + shore_hears(0, [0])), [0, 120])

    def test_kept_with_another_kind_or_other_numbers(self):
        message = differing(1, 2)
        for place, other in ((3, 9), (3, 1), (4, 0), (4, MOST_VALUE), (5, 0), (5, MOST_VALUE)):
            wrong = list(message)
            wrong[place] = other
            self.assertNotEqual(wrong, message)
            for before in (SEVEN, USED, ALL):
                check_shore_refused(self, before, shore_hear(wrong), -74)
        check_shore_refused(self, SEVEN, shore_hear([1, 1, 2, 9, 9, 9]), -74)

    def test_x_and_y_are_not_taken_for_one_another(self):
        kind, x, y = differing(1, 2)[3:]
        check_shore_refused(self, SEVEN, shore_hear(call_of(1, 2, kind, y, x)), -74)

    def test_what_was_refused_is_heard_as_it_was_kept(self):
        wrong = shore_hear(call_of(1, 2, 9, 9, 9))
        calls = SEVEN + [wrong] + shore_hears(1, [2]) + [wrong, shore_state()]
        self.assertEqual(ask(calls)[-4:], [[-74], [0, 7], [-74], [7, 1]])

    def test_what_is_not_a_call_is_told_ahead_of_what_is_kept_otherwise(self):
        for place, other in ((3, 0), (3, 10), (3, GREATEST), (4, MOST_VALUE + 1), (5, MOST_VALUE + 1), (5, GREATEST)):
            message = differing(1, 2)
            message[place] = other
            check_shore_refused(self, SEVEN, shore_hear(message), -71)
        message = call_of(1, 2, 9, 9, 9)
        check_shore_refused(self, SEVEN, shore_hear([2] + message[1:]), -71)

    def test_the_same_number_of_two_callers(self):
        calls = STARTED + [shore_hear(call_of(0, 3, 1, 2, 3)), shore_hear(call_of(1, 3, 4, 5, 6))]
        calls += [shore_hear(call_of(2, 3, 1, 2, 3)), shore_state(), find(0, 3), find(1, 3), find(2, 3), find(3, 3)]
        self.assertEqual(ask(calls)[1:], [[1, 1], [1, 2], [1, 3], [3, 0], [1, 2, 3], [4, 5, 6], [1, 2, 3], [-6]])

    def test_two_numbers_of_one_caller_with_the_same_words(self):
        calls = STARTED + [shore_hear(call_of(2, 3, 1, 2, 3)), shore_hear(call_of(2, 4, 1, 2, 3))]
        self.assertEqual(ask(calls)[1:], [[1, 1], [1, 2]])

    def test_caller_and_number_are_not_taken_for_one_another(self):
        calls = STARTED + [shore_hear(call_of(1, 2)), shore_hear(call_of(2, 1)), find(1, 1), find(2, 2)]
        self.assertEqual(ask(calls)[1:], [[1, 1], [1, 2], [-6], [-6]])

    def test_all_that_there_can_be(self):
        self.assertEqual(ask(ALL)[1:], [[1, count] for count in range(1, 121)])
        self.assertEqual(ask(ALL + ALL[1:])[121:], [[0, 120]] * 120)

    def test_heard_again_is_counted(self):
        for count in range(20):
            self.assertEqual(last(SEVEN + shore_hears(1, [2]) * count + [shore_state()]), [7, count])

    def test_heard_again_is_counted_to_a_million(self):
        # No list is long enough to come there, so the shore is put just below.
        shore = Shore()
        sh_hear(shore, call_of(0, 0))
        shore.again = MOST_VALUE - 1
        for _ in range(3):
            self.assertEqual(sh_hear(shore, call_of(0, 0)), [0, 1])
            self.assertEqual(sh_state(shore), [1, MOST_VALUE])


if __name__ == "__main__":
    unittest.main()
