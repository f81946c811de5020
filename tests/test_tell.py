"""ca_tell: promise 1, and what 'None forgotten' says of telling again."""

import unittest

from calledshores.radio import Caller, ca_say, ca_state, ca_tell
from tests.helper import (
    MOST_VALUE, answer_to, ask, check_refused, hear, heard_as_called, last, many, say, start, state, tell,
)

STARTED = [start(0, 0)]


def told(calls, count):
    """The numbers of the calls that are told next, one telling behind another."""
    return [answer[0] for answer in ask(calls + [tell(0)] * count)[-count:]]


class TellTest(unittest.TestCase):
    def test_message_of_a_call(self):
        calls = [start(0, 3), say(0, 9, MOST_VALUE, 0), say(0, 1, 2, MOST_VALUE), tell(0), tell(0)]
        self.assertEqual(ask(calls)[-2:], [[0, 1, 3, 0, 9, MOST_VALUE, 0], [1, 1, 3, 1, 1, 2, MOST_VALUE]])

    def test_last_of_thirty_is_told(self):
        calls = STARTED + heard_as_called(29) + [say(0, 4, 5, 6), tell(0)]
        self.assertEqual(last(calls), [29, 1, 0, 29, 4, 5, 6])

    def test_nothing_called(self):
        check_refused(self, STARTED, tell(0), -6)

    def test_none_open(self):
        check_refused(self, STARTED + many(3) + [tell(0), hear(0, answer_to(0, 3))], tell(0), -6)

    def test_none_open_of_thirty(self):
        check_refused(self, STARTED + heard_as_called(30), tell(0), -6)

    def test_in_order_and_round_again(self):
        self.assertEqual(told(STARTED + many(4), 9), [0, 1, 2, 3, 0, 1, 2, 3, 0])

    def test_one_open_is_told_again_and_again(self):
        self.assertEqual(told(STARTED + many(1), 3), [0, 0, 0])

    def test_known_ones_are_passed_over(self):
        calls = STARTED + many(6) + [hear(0, answer_to(0, 1, 0b101))]
        self.assertEqual(told(calls, 5), [1, 3, 5, 1, 3])

    def test_the_one_told_last_is_known_by_then(self):
        calls = STARTED + many(5) + [tell(0), tell(0), tell(0), hear(0, answer_to(0, 1, 1))]
        self.assertEqual(told(calls, 4), [3, 4, 1, 3])

    def test_the_one_told_last_is_known_and_none_behind_it(self):
        calls = STARTED + many(3) + [tell(0), tell(0), tell(0), hear(0, answer_to(0, 1, 1))]
        self.assertEqual(told(calls, 2), [1, 1])

    def test_none_open_behind_the_one_told_last(self):
        calls = STARTED + many(4) + [tell(0), tell(0), hear(0, answer_to(0, 0, 0b110))]
        self.assertEqual(told(calls, 3), [0, 1, 0])

    def test_all_ahead_of_the_one_told_last_are_known(self):
        calls = STARTED + many(4) + [tell(0), tell(0), hear(0, answer_to(0, 2))]
        self.assertEqual(told(calls, 3), [2, 3, 2])

    def test_one_called_since_comes_behind_the_one_told_last(self):
        calls = STARTED + many(2) + [tell(0), tell(0), say(0)]
        self.assertEqual(told(calls, 3), [2, 0, 1])

    def test_the_one_told_last_was_the_last_and_all_were_heard(self):
        calls = STARTED + many(2) + [tell(0), tell(0), hear(0, answer_to(0, 2)), tell(0), say(0), say(0)]
        self.assertEqual(told(calls, 3), [2, 3, 2])

    def test_nothing_told_yet_though_some_are_known(self):
        self.assertEqual(told(STARTED + many(3) + [hear(0, answer_to(0, 1))], 1), [1])

    def test_refused_telling_does_not_count(self):
        calls = STARTED + [tell(0)] + many(1) + [tell(0), hear(0, answer_to(0, 1)), tell(0), state(0)]
        self.assertEqual(last(calls), [1, 0, 1])

    def test_tellings_are_counted(self):
        for count in range(1, 20):
            self.assertEqual(last(STARTED + many(2) + [tell(0)] * count + [state(0)]), [2, 0, count])

    def test_tellings_are_counted_to_a_million(self):
        # No list is long enough to come there, so the caller is put just below.
        caller = Caller(0)
        ca_say(caller, 1, 0, 0)
        caller.told = MOST_VALUE - 1
        for _ in range(3):
            self.assertEqual(ca_tell(caller), [0, 1, 0, 0, 1, 0, 0])
            self.assertEqual(ca_state(caller), [1, 0, MOST_VALUE])


if __name__ == "__main__":
    unittest.main()
