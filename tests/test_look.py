"""ca_known, ca_open, ca_said and ca_state: promise 2."""

import unittest

from tests.helper import (
    GREATEST, MOST_VALUE, answer_to, ask, check_refused, hear, heard_as_called, known, last, many, open_ones, probe,
    said, say, start, state, tell,
)

STARTED = [start(0, 1)]
FIVE = STARTED + many(5)
THIRTY = STARTED + heard_as_called(30, 0, 1)


class KnownTest(unittest.TestCase):
    def test_known_and_open(self):
        before = FIVE + [hear(0, answer_to(1, 1, 0b10))]
        self.assertEqual(ask(before + [known(0, i) for i in range(5)])[-5:], [[1], [0], [0], [1], [0]])

    def test_last_call_and_one_behind_it(self):
        self.assertEqual(last(FIVE + [known(0, 4)]), [0])
        check_refused(self, FIVE, known(0, 5), -2)
        self.assertEqual(last(THIRTY + [known(0, 29)]), [1])
        check_refused(self, THIRTY, known(0, 30), -2)

    def test_no_call_at_all(self):
        check_refused(self, STARTED, known(0, 0), -2)

    def test_the_greatest_number(self):
        for before in (STARTED, FIVE, THIRTY):
            check_refused(self, before, known(0, GREATEST), -2)

    def test_what_was_told_is_not_known_by_that(self):
        self.assertEqual(last(FIVE + [tell(0), known(0, 0)]), [0])


class OpenTest(unittest.TestCase):
    def test_no_call_at_all(self):
        self.assertEqual(last(STARTED + [open_ones(0)]), [0, 0, 0])

    def test_all_open(self):
        for count in range(1, 9):
            self.assertEqual(last(STARTED + many(count) + [open_ones(0)]), [count, (1 << count) - 1, 0])

    def test_bits_stand_at_the_numbers_of_the_calls(self):
        before = FIVE + [hear(0, answer_to(1, 1, 0b10))]
        self.assertEqual(last(before + [open_ones(0)]), [3, 0b10110, 1])

    def test_none_open(self):
        self.assertEqual(last(FIVE + [hear(0, answer_to(1, 5)), open_ones(0)]), [0, 0, 5])
        self.assertEqual(last(THIRTY + [open_ones(0)]), [0, 0, 30])

    def test_the_last_of_thirty_open(self):
        before = STARTED + heard_as_called(29, 0, 1) + [say(0)]
        self.assertEqual(last(before + [open_ones(0)]), [1, 1 << 29, 29])

    def test_the_last_eight_of_thirty_open(self):
        before = STARTED + heard_as_called(22, 0, 1) + many(8)
        self.assertEqual(last(before + [open_ones(0)]), [8, 255 << 22, 22])


class SaidTest(unittest.TestCase):
    def test_each_as_it_was_called(self):
        before = STARTED + [say(0, 1, 0, MOST_VALUE), say(0, 9, MOST_VALUE, 0), say(0, 5, 3, 4)]
        looked = ask(before + [said(0, 2), said(0, 0), said(0, 1)])
        self.assertEqual(looked[-3:], [[5, 3, 4], [1, 0, MOST_VALUE], [9, MOST_VALUE, 0]])

    def test_also_when_it_is_known(self):
        self.assertEqual(last(FIVE + [hear(0, answer_to(1, 5)), said(0, 3)]), [4, 103, 203])

    def test_last_call_and_one_behind_it(self):
        self.assertEqual(last(FIVE + [said(0, 4)]), [5, 104, 204])
        check_refused(self, FIVE, said(0, 5), -2)
        self.assertEqual(last(THIRTY + [said(0, 29)]), [3, 129, 229])
        check_refused(self, THIRTY, said(0, 30), -2)

    def test_no_call_at_all(self):
        check_refused(self, STARTED, said(0, 0), -2)

    def test_the_greatest_number(self):
        for before in (STARTED, FIVE, THIRTY):
            check_refused(self, before, said(0, GREATEST), -2)


class StateTest(unittest.TestCase):
    def test_number_tellings_and_calls(self):
        self.assertEqual(last([start(0, 3)] + many(4) + [tell(0)] * 6 + [state(0)]), [4, 3, 6])

    def test_thirty_called(self):
        self.assertEqual(last(THIRTY + [state(0)]), [30, 1, 0])

    def test_hearing_does_not_change_it(self):
        self.assertEqual(last(FIVE + [tell(0), hear(0, answer_to(1, 5)), state(0)]), [5, 1, 1])


class LookTest(unittest.TestCase):
    def test_looking_changes_nothing(self):
        before = FIVE + [tell(0), hear(0, answer_to(1, 1, 1))]
        for look in (known(0, 1), known(0, 0), open_ones(0), said(0, 2), state(0)):
            looked = ask(before + [look] + probe(0))
            self.assertEqual(looked[len(before) + 1:], ask(before + probe(0))[len(before):])


if __name__ == "__main__":
    unittest.main()
