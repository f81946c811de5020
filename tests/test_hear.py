"""ca_hear and ca_would: promise 2, with 'Messages' and what 'A caller' says of a good answer."""

import unittest

from tests.helper import (
    GREATEST, answer_to, ask, check_refused, hear, heard_as_called, known, last, many, open_ones, probe, start, tell,
    would,
)

FIVE = [start(0, 2)] + many(5)
TWELVE = [start(0, 2)] + heard_as_called(4, 0, 2) + many(8)


def known_after(before, message, count):
    """Which of so many calls are known once the message is heard."""
    answered = ask(before + [hear(0, message)] + [known(0, i) for i in range(count)])
    return [i for i in range(count) if answered[len(before) + 1 + i] == [1]]


class HearTest(unittest.TestCase):
    def check_not_good(self, before, message):
        check_refused(self, before, hear(0, message), -71)
        check_refused(self, before, would(0, message), -71)

    def check_good(self, before, message, fresh, still_open):
        self.assertEqual(last(before + [hear(0, message)]), [fresh, still_open])
        self.assertEqual(last(before + [would(0, message)]), [fresh])

    def test_all_there(self):
        for count in range(6):
            self.check_good(FIVE, answer_to(2, count), count, 5 - count)
            self.assertEqual(known_after(FIVE, answer_to(2, count), 5), list(range(count)))

    def test_one_more_all_there_than_were_called(self):
        self.check_not_good(FIVE, answer_to(2, 6))
        self.check_not_good(FIVE, answer_to(2, GREATEST))

    def test_all_there_of_nothing_called(self):
        self.check_good([start(0, 2)], answer_to(2, 0), 0, 0)
        self.check_not_good([start(0, 2)], answer_to(2, 1))
        self.check_not_good([start(0, 2)], answer_to(2, 0, 1))

    def test_thirty_all_there(self):
        before = [start(0, 2)] + heard_as_called(22, 0, 2) + many(8)
        self.check_good(before, answer_to(2, 30), 8, 0)
        self.check_not_good(before, answer_to(2, 31))
        self.check_not_good(before, answer_to(2, 30, 1))
        self.check_good(before, answer_to(2, 28, 1), 7, 1)
        self.check_not_good(before, answer_to(2, 29, 1))

    def test_first_bit_is_the_one_behind_the_gap(self):
        self.check_good(FIVE, answer_to(2, 1, 1), 2, 3)
        self.assertEqual(known_after(FIVE, answer_to(2, 1, 1), 5), [0, 2])

    def test_each_bit(self):
        for bit in range(8):
            self.assertEqual(known_after(TWELVE, answer_to(2, 3, 1 << bit), 12), sorted({0, 1, 2, 3, 4 + bit}))

    def test_bits_with_none_all_there(self):
        self.assertEqual(known_after(FIVE, answer_to(2, 0, 0b1010), 5), [2, 4])

    def test_bits_at_255_and_256(self):
        self.check_good(TWELVE, answer_to(2, 3, 255), 8, 0)
        self.check_not_good(TWELVE, answer_to(2, 3, 256))
        self.check_not_good(TWELVE, answer_to(2, 3, 256 + 1))
        self.check_not_good(TWELVE, answer_to(2, 3, GREATEST))
        # Here even a ninth bit would tell of a call that was called.
        self.check_not_good(TWELVE, answer_to(2, 0, 256))

    def test_bits_of_the_last_call_and_of_one_that_was_not_called(self):
        self.check_good(FIVE, answer_to(2, 1, 0b100), 2, 3)
        self.check_not_good(FIVE, answer_to(2, 1, 0b1000))
        self.check_not_good(FIVE, answer_to(2, 1, 0b1111))
        self.check_not_good(FIVE, answer_to(2, 1, 128))
        self.check_not_good(FIVE, answer_to(2, 4, 1))
        self.check_not_good(FIVE, answer_to(2, 5, 1))

    def test_answer_to_another_caller(self):
        for me in (0, 1, 3, 4, GREATEST):
            self.check_not_good(FIVE, answer_to(me, 1))

    def test_first_number_must_be_that_of_an_answer(self):
        for first in (0, 1, 3, GREATEST):
            self.check_not_good(FIVE, [first, 2, 1, 0, 0, 0])

    def test_last_two_numbers_must_be_zero(self):
        for number in (1, 2, GREATEST):
            self.check_not_good(FIVE, [2, 2, 1, 0, number, 0])
            self.check_not_good(FIVE, [2, 2, 1, 0, 0, number])

    def test_the_greatest_number_in_each_place(self):
        for place in range(6):
            message = answer_to(2, 1)
            message[place] = GREATEST
            self.check_not_good(FIVE, message)
        self.check_not_good(FIVE, [GREATEST] * 6)

    def test_a_call_is_no_answer(self):
        self.check_not_good(FIVE, last(FIVE + [tell(0)])[1:])

    def test_heard_twice(self):
        message = answer_to(2, 2, 0b10)
        once = FIVE + [hear(0, message)]
        self.assertEqual(ask(once + [hear(0, message)])[-2:], [[3, 2], [0, 2]])
        twice = once + [hear(0, message)]
        self.assertEqual(ask(twice + probe(0))[len(twice):], ask(once + probe(0))[len(once):])

    def test_late_answer_makes_nothing_unknown(self):
        before = FIVE + [hear(0, answer_to(2, 3))]
        for message in (answer_to(2, 0), answer_to(2, 1), answer_to(2, 0, 1)):
            self.check_good(before, message, 0, 2)
            self.assertEqual(known_after(before, message, 5), [0, 1, 2])

    def test_only_what_was_not_known_counts(self):
        before = FIVE + [hear(0, answer_to(2, 0, 0b101))]
        self.check_good(before, answer_to(2, 3), 2, 1)
        self.check_good(before, answer_to(2, 1, 0b11), 2, 1)
        self.check_good(before, answer_to(2, 1, 0b111), 3, 0)

    def test_would_changes_nothing(self):
        for message in (answer_to(2, 5), answer_to(2, 1, 0b111), answer_to(2, 0)):
            looked = ask(FIVE + [would(0, message)] + probe(0))
            self.assertEqual(looked[len(FIVE) + 1:], ask(FIVE + probe(0))[len(FIVE):])

    def test_hearing_leaves_what_was_told_last(self):
        calls = FIVE + [tell(0), tell(0), hear(0, answer_to(2, 1)), open_ones(0), tell(0)]
        self.assertEqual(ask(calls)[-2:], [[4, 0b11110, 1], [2, 1, 2, 2, 3, 102, 202]])


if __name__ == "__main__":
    unittest.main()
