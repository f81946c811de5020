"""ca_start: promise 1, and the row ahead of the promises."""

import unittest

from tests.helper import (
    GREATEST, answer_to, ask, check_refused, hear, known, last, many, open_ones, probe, said, say, start, state, tell,
)

USED = [start(0, 1)] + many(5) + [tell(0), tell(0), hear(0, answer_to(1, 1, 2))]


class StartTest(unittest.TestCase):
    def test_each_number_that_a_caller_may_have(self):
        for me in range(4):
            self.assertEqual(ask([start(0, me), state(0)]), [[0], [0, me, 0]])

    def test_number_above_three_is_refused(self):
        for me in (4, 5, 255, 256, GREATEST - 1, GREATEST):
            self.assertEqual(ask([start(0, me)]), [[-22]])

    def test_refused_starts_ahead_of_the_one_that_counts(self):
        calls = [start(0, 4), start(0, GREATEST), start(0, 3), state(0)]
        self.assertEqual(ask(calls), [[-22], [-22], [0], [0, 3, 0]])

    def test_refused_start_on_another_caller_leaves_the_started_one(self):
        check_refused(self, USED, start(1, 4), -22)

    def test_nothing_called_and_nothing_told(self):
        self.assertEqual(last([start(0, 0), tell(0)]), [-6])
        self.assertEqual(last([start(0, 0), known(0, 0)]), [-2])
        self.assertEqual(last([start(0, 0), said(0, 0)]), [-2])
        self.assertEqual(last([start(0, 0), open_ones(0)]), [0, 0, 0])
        self.assertEqual(last([start(0, 0), state(0)]), [0, 0, 0])

    def test_start_again_makes_all_new(self):
        again = ask(USED + [start(0, 2)] + probe(0))[len(USED):]
        self.assertEqual(again, ask([start(0, 2)] + probe(0)))

    def test_start_again_with_the_same_number_makes_all_new(self):
        again = ask(USED + [start(0, 1)] + probe(0))[len(USED):]
        self.assertEqual(again, ask([start(0, 1)] + probe(0)))

    def test_start_again_forgets_what_was_told_last(self):
        calls = USED + [start(0, 1)] + many(5) + [tell(0), state(0)]
        self.assertEqual(ask(calls)[-2:], [[0, 1, 1, 0, 1, 100, 200], [5, 1, 1]])

    def test_refused_start_on_one_in_use_leaves_all(self):
        for me in (4, GREATEST):
            check_refused(self, USED, start(0, me), -22)

    def test_started_again_hears_answers_to_its_new_number_alone(self):
        before = USED + [start(0, 2), say(0)]
        check_refused(self, before, hear(0, answer_to(1, 1)), -71)
        self.assertEqual(last(before + [hear(0, answer_to(2, 1))]), [1, 0])


if __name__ == "__main__":
    unittest.main()
