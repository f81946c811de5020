"""Three callers in one list, each on its own."""

import itertools
import unittest

from tests.helper import answer_to, ask, hear, many, open_ones, probe, say, start, state, tell


def story(caller, me, count):
    """What one caller does: it calls, tells and hears, and all that it keeps is looked at."""
    calls = [start(caller, 4), start(caller, me)] + many(count, caller) + [tell(caller), tell(caller)]
    calls += [hear(caller, answer_to(me, 1, 1)), hear(caller, answer_to((me + 1) % 4, 2)), tell(caller)]
    return calls + [open_ones(caller), start(caller, 5), state(caller)] + probe(caller)


def taken_in_turn(stories):
    """The calls of several, one of each in turn; with each the place of its story."""
    rows = itertools.zip_longest(*stories)
    return [(place, call) for row in rows for place, call in enumerate(row) if call is not None]


class CallersTest(unittest.TestCase):
    def check_each_alone(self, stories):
        mixed = taken_in_turn(stories)
        answered = ask([call for _, call in mixed])
        for place, alone in enumerate(stories):
            own = [answer for (whose, _), answer in zip(mixed, answered) if whose == place]
            self.assertEqual(own, ask(alone))

    def test_three_in_any_order(self):
        for order in itertools.permutations(range(3)):
            self.check_each_alone([story(caller, 3 - caller, 3 + caller) for caller in order])

    def test_the_same_number_told_to_all(self):
        for me in range(4):
            self.check_each_alone([story(caller, me, 3 + caller) for caller in range(3)])

    def test_one_behind_another(self):
        stories = [story(2, 0, 6), story(0, 2, 3), story(1, 2, 4)]
        together = ask(stories[0] + stories[1] + stories[2])
        self.assertEqual(together, ask(stories[0]) + ask(stories[1]) + ask(stories[2]))

    def test_any_caller_alone(self):
        for caller in range(3):
            self.assertEqual(ask(story(caller, 1, 5)), ask(story(0, 1, 5)))

    def test_the_number_told_need_not_be_the_caller(self):
        calls = [start(2, 0), start(0, 2), say(2, 3, 4, 5), tell(2), hear(2, answer_to(2, 1)), hear(2, answer_to(0, 1))]
        self.assertEqual(ask(calls)[2:], [[0], [0, 1, 0, 0, 3, 4, 5], [-71], [1, 0]])

    def test_an_answer_is_heard_by_the_one_that_it_is_handed_to(self):
        calls = [start(0, 1), start(1, 1), say(0), say(1), hear(0, answer_to(1, 1)), open_ones(0), open_ones(1)]
        self.assertEqual(ask(calls)[-3:], [[1, 0], [0, 0, 1], [1, 1, 0]])

    def test_start_again_of_one_leaves_the_others(self):
        calls = [start(0, 0), start(1, 1), start(2, 2), say(0), say(1), say(2), start(1, 3)]
        calls += [state(0), state(1), state(2)]
        self.assertEqual(ask(calls)[-3:], [[1, 0, 0], [0, 3, 0], [1, 2, 0]])


if __name__ == "__main__":
    unittest.main()
