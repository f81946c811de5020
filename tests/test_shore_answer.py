"""sh_answer: promise 3, with 'Messages' (what an answer is)."""

import unittest

from tests.helper import (
    GREATEST, ask, call_of, check_leaves_all, check_shore_refused, last, shore_answer, shore_hear, shore_hears,
    shore_probe, shore_start,
)

STARTED = [shore_start()]
ALL = STARTED + [one for k in range(4) for one in shore_hears(k, range(30))]


class ShoreAnswerTest(unittest.TestCase):
    def check_answer(self, numbers, all_there, bits):
        """Each caller is answered so, once the shore has its calls of these numbers and others of another caller."""
        for k in range(4):
            others = shore_hears((k + 1) % 4, [0, 1, 3, 29])
            for order in (numbers, list(reversed(numbers))):
                calls = STARTED + shore_hears(k, order) + others + [shore_answer(k)]
                self.assertEqual(last(calls), [all_there, 2, k, all_there, bits, 0, 0])

    def test_nothing_there(self):
        self.check_answer([], 0, 0)

    def test_no_gap(self):
        for count in range(1, 31):
            self.check_answer(list(range(count)), count, 0)

    def test_gap_at_the_first(self):
        self.check_answer([1], 0, 1)
        self.check_answer([2], 0, 2)
        self.check_answer([8], 0, 128)
        self.check_answer([1, 2, 3, 4, 5, 6, 7, 8], 0, 255)

    def test_the_ninth_behind_the_gap_is_not_told(self):
        self.check_answer([9], 0, 0)
        self.check_answer([1, 2, 3, 4, 5, 6, 7, 8, 9], 0, 255)
        self.check_answer([0, 1, 2] + list(range(4, 13)), 3, 255)
        self.check_answer([0, 1, 2, 12], 3, 0)
        self.check_answer([0, 1, 2, 11, 13], 3, 128)

    def test_each_bit(self):
        for gap in range(21):
            for bit in range(8):
                self.check_answer(list(range(gap)) + [gap + 1 + bit], gap, 1 << bit)

    def test_more_gaps_than_one(self):
        self.check_answer([0, 2, 4, 6, 8, 10, 12], 1, 0b10101010 >> 1)
        self.check_answer([0, 1, 3, 6, 7, 10, 11], 2, 0b10011001)

    def test_gap_near_the_last(self):
        self.check_answer(list(range(29)), 29, 0)
        self.check_answer(list(range(28)) + [29], 28, 1)
        self.check_answer(list(range(21)) + list(range(22, 30)), 21, 255)
        self.check_answer(list(range(20)) + list(range(21, 30)), 20, 255)
        self.check_answer(list(range(1, 30)), 0, 255)
        self.check_answer([29], 0, 0)

    def test_all_thirty_there(self):
        self.check_answer(list(range(30)), 30, 0)
        for k in range(4):
            self.assertEqual(last(ALL + [shore_answer(k)]), [30, 2, k, 30, 0, 0, 0])

    def test_gap_that_is_closed(self):
        calls = STARTED + shore_hears(2, [1, 2, 4]) + [shore_answer(2)] + shore_hears(2, [0]) + [shore_answer(2)]
        self.assertEqual(ask(calls)[4:], [[0, 2, 2, 0, 0b1011, 0, 0], [1, 4], [3, 2, 2, 3, 1, 0, 0]])

    def test_refused_calls_are_not_told(self):
        calls = STARTED + [shore_hear(call_of(1, 0, 10)), shore_hear([0, 1, 1, 1, 0, 0]), shore_answer(1)]
        self.assertEqual(last(calls), [0, 2, 1, 0, 0, 0, 0])

    def test_caller_above_three(self):
        for before in (STARTED, STARTED + shore_hears(3, [0, 2]), ALL):
            for k in (4, 5, 255, 256, GREATEST):
                check_shore_refused(self, before, shore_answer(k), -2)
        self.assertEqual(last(ALL + [shore_answer(3)]), [30, 2, 3, 30, 0, 0, 0])

    def test_answering_changes_nothing(self):
        before = STARTED + shore_hears(1, [0, 2, 0])
        check_leaves_all(self, before, shore_answer(1), [1, 2, 1, 1, 1, 0, 0], shore_probe())
        self.assertEqual(ask(before + [shore_answer(1)] * 3)[-3:], [[1, 2, 1, 1, 1, 0, 0]] * 3)


if __name__ == "__main__":
    unittest.main()
