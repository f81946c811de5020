"""ca_say: promise 1."""

import unittest

from tests.helper import (
    GREATEST, MOST_VALUE, answer_to, ask, check_refused, hear, heard_as_called, last, many, said, say, start, state,
)

STARTED = [start(0, 0)]
EIGHT_OPEN = STARTED + many(8)
THIRTY = STARTED + heard_as_called(30)
WRONG = [
    (0, 0, 0), (10, 0, 0), (GREATEST, 0, 0),
    (1, MOST_VALUE + 1, 0), (1, GREATEST, 0),
    (1, 0, MOST_VALUE + 1), (1, 0, GREATEST),
    (0, MOST_VALUE + 1, MOST_VALUE + 1), (GREATEST, GREATEST, GREATEST),
]


class SayTest(unittest.TestCase):
    def test_numbered_from_zero(self):
        self.assertEqual(ask(STARTED + many(4)), [[0], [0], [1], [2], [3]])

    def test_each_kind(self):
        for kind in range(1, 10):
            self.assertEqual(ask(STARTED + [say(0, kind, 5, 6), said(0, 0)])[1:], [[0], [kind, 5, 6]])

    def test_edges_of_x_and_y(self):
        for x, y in ((0, 0), (MOST_VALUE, 0), (0, MOST_VALUE), (MOST_VALUE, MOST_VALUE)):
            self.assertEqual(ask(STARTED + [say(0, 1, x, y), said(0, 0)])[1:], [[0], [1, x, y]])

    def test_wrong_numbers_are_refused(self):
        for before in (STARTED, STARTED + many(3)):
            for kind, x, y in WRONG:
                check_refused(self, before, say(0, kind, x, y), -22)

    def test_seven_behind_the_first_open_may_be_called(self):
        self.assertEqual(last(EIGHT_OPEN), [7])

    def test_eight_behind_the_first_open_may_not(self):
        check_refused(self, EIGHT_OPEN, say(0), -28)

    def test_reach_goes_with_the_first_that_is_open(self):
        before = EIGHT_OPEN + [hear(0, answer_to(0, 1))]
        self.assertEqual(last(before + [say(0)]), [8])
        check_refused(self, before + [say(0)], say(0), -28)

    def test_reach_is_not_how_many_are_open(self):
        before = EIGHT_OPEN + [hear(0, answer_to(0, 0, 127))]
        self.assertEqual(last(before), [7, 1])
        check_refused(self, before, say(0), -28)

    def test_reach_leaps_over_what_is_known(self):
        before = EIGHT_OPEN + [hear(0, answer_to(0, 0, 3)), hear(0, answer_to(0, 1))]
        self.assertEqual(ask(before + [say(0)] * 4)[-4:], [[8], [9], [10], [-28]])

    def test_none_open_then_eight_more(self):
        before = EIGHT_OPEN + [hear(0, answer_to(0, 8))]
        self.assertEqual(ask(before + [say(0)] * 9)[-9:], [[i] for i in range(8, 16)] + [[-28]])

    def test_last_of_thirty(self):
        self.assertEqual(last(STARTED + heard_as_called(29) + [say(0)]), [29])

    def test_thirty_called_none_open(self):
        check_refused(self, THIRTY, say(0), -28)

    def test_thirty_called_some_open(self):
        before = STARTED + heard_as_called(26) + many(4)
        self.assertEqual(last(before + [state(0)]), [30, 0, 0])
        check_refused(self, before, say(0), -28)

    def test_wrong_numbers_are_told_ahead_of_no_room(self):
        for before in (EIGHT_OPEN, THIRTY):
            for kind, x, y in WRONG:
                check_refused(self, before, say(0, kind, x, y), -22)

    def test_refused_one_takes_no_number(self):
        self.assertEqual(ask(STARTED + [say(0, 0), say(0), say(0, 10), say(0)])[1:], [[-22], [0], [-22], [1]])


if __name__ == "__main__":
    unittest.main()
