"""Long lists of calls, held against a second telling of the document."""

import unittest

from calledshores.radio import answers
from tests.helper import ask, flat
from tests.model import drawn_list

REFUSALS = {
    (0, -22), (1, -22), (1, -28), (2, -6), (3, -71), (4, -2), (6, -2), (7, -71),
    (10, -71), (10, -74), (11, -2), (12, -2), (13, -2), (13, -6), (14, -2), (15, -2),
}


class ModelTest(unittest.TestCase):
    def test_the_same_answers_as_the_model(self):
        for seed in range(160):
            calls, expected, _ = drawn_list(seed, 1000 if seed % 4 == 0 else 150)
            self.assertEqual(ask(calls), expected, f"seed {seed}")

    def test_the_same_answers_twice_and_the_list_as_it_was(self):
        for seed in range(40):
            calls = flat(drawn_list(seed, 200)[0])
            copy = list(calls)
            first = answers(calls)
            self.assertEqual(calls, copy)
            self.assertEqual(answers(calls), first)

    def test_the_lists_come_to_every_answer_and_refusal(self):
        seen = set()
        for seed in range(0, 40, 4):
            calls, expected, _ = drawn_list(seed, 1000)
            seen |= {(call[0], min(answer[0], 0)) for call, answer in zip(calls, expected)}
        self.assertEqual(seen, REFUSALS | {(number, 0) for number in range(17)})

    def test_the_lists_hear_what_is_new_and_what_is_heard_again(self):
        seen = set()
        for seed in range(0, 40, 4):
            calls, expected, _ = drawn_list(seed, 1000)
            seen |= {answer[0] for call, answer in zip(calls, expected) if call[0] == 10}
        self.assertEqual(seen, {-74, -71, 0, 1})


if __name__ == "__main__":
    unittest.main()
