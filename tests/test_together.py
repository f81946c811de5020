"""Callers and the shore in one list, in any order, each on its own."""

import itertools
import random
import unittest

from tests.helper import (
    answer_to, ask, call_of, find, gaps, get, hear, kept_of, many, open_ones, probe, say, shore_answer,
    shore_hear, shore_hears, shore_looks, shore_start, shore_state, start, state, tell,
)


def story(caller, me, count):
    """What one caller does: it calls, tells and hears, and all that it keeps is looked at."""
    calls = [start(caller, 4), start(caller, me)] + many(count, caller) + [tell(caller), tell(caller)]
    calls += [hear(caller, answer_to(me, 1, 1)), hear(caller, answer_to((me + 1) % 4, 2)), tell(caller)]
    return calls + [open_ones(caller), start(caller, 5), state(caller)] + probe(caller)


def shore_story(k):
    """What the shore does: it hears calls, refuses some, answers, starts anew, and all that it keeps is looked at."""
    calls = [shore_start()] + shore_hears(k, [0, 2, 2, 5]) + [shore_hear(call_of(k, 2, 9, 9, 9)), shore_answer(k)]
    calls += [get(3), find(k, 5), kept_of(k), gaps(k), shore_answer(4), shore_state(), shore_start()]
    return calls + shore_hears(k, [1, 0, 1, 4]) + shore_hears((k + 1) % 4, [29, 0]) + shore_looks()


def taken_in_turn(stories):
    """The calls of several, one of each in turn; with each the place of its story."""
    rows = itertools.zip_longest(*stories)
    return [(place, call) for row in rows for place, call in enumerate(row) if call is not None]


def taken_as_drawn(draw, stories):
    """The calls of several, each story in its own order and the stories mixed in any; with each its story's place."""
    places = [place for place, calls in enumerate(stories) for _ in calls]
    draw.shuffle(places)
    rest = [iter(calls) for calls in stories]
    return [(place, next(rest[place])) for place in places]


class TogetherTest(unittest.TestCase):
    def check_each_alone(self, stories, mixed=None):
        mixed = mixed or taken_in_turn(stories)
        answered = ask([call for _, call in mixed])
        for place, alone in enumerate(stories):
            own = [answer for (whose, _), answer in zip(mixed, answered) if whose == place]
            self.assertEqual(own, ask(alone))

    def test_three_callers_and_the_shore_in_any_order(self):
        for order in itertools.permutations(range(4)):
            stories = [story(caller, 3 - caller, 3 + caller) for caller in range(2)] + [shore_story(2)]
            stories.append([start(2, 1)] + many(8, 2) + [tell(2)] * 9 + [state(2), open_ones(2)])
            self.check_each_alone([stories[place] for place in order])

    def test_mixed_as_they_are_drawn(self):
        draw = random.Random(7)
        for me in range(4):
            stories = [story(0, me, 4), story(2, 3 - me, 6), shore_story(me)]
            for _ in range(10):
                self.check_each_alone(stories, taken_as_drawn(draw, stories))

    def test_the_shore_alone(self):
        for k in range(4):
            calls = shore_story(k)
            self.assertEqual(ask(story(1, k, 3) + calls)[-len(calls):], ask(calls))
            self.assertEqual(ask(calls + story(1, k, 3))[:len(calls)], ask(calls))

    def test_what_a_caller_tells_is_kept_only_when_it_is_handed_on(self):
        calls = [start(0, 2), shore_start(), say(0, 3, 4, 5), tell(0), shore_state(), shore_answer(2)]
        self.assertEqual(ask(calls)[-3:], [[0, 1, 2, 0, 3, 4, 5], [0, 0], [0, 2, 2, 0, 0, 0, 0]])

    def test_what_the_shore_answers_is_known_only_when_it_is_handed_on(self):
        calls = [shore_start(), start(0, 2), say(0, 3, 4, 5), shore_hear(call_of(2, 0, 3, 4, 5)), shore_answer(2)]
        calls += [open_ones(0), hear(0, [2, 2, 1, 0, 0, 0]), open_ones(0)]
        self.assertEqual(ask(calls)[-4:], [[1, 2, 2, 1, 0, 0, 0], [1, 1, 0], [1, 0], [0, 0, 1]])

    def test_a_start_of_one_leaves_the_others(self):
        calls = [start(0, 0), shore_start(), say(0)] + shore_hears(0, [0, 0])
        self.assertEqual(ask(calls + [shore_start(), state(0), shore_state()])[-2:], [[1, 0, 0], [0, 0]])
        self.assertEqual(ask(calls + [start(0, 1), state(0), shore_state()])[-2:], [[0, 1, 0], [1, 1]])
        self.assertEqual(ask(calls + [start(0, 4), state(0), shore_state()])[-2:], [[1, 0, 0], [1, 1]])

    def test_the_shore_keeps_calls_of_a_number_that_no_caller_has(self):
        calls = [shore_start(), start(0, 0)] + shore_hears(3, [0]) + [shore_answer(3), state(0)]
        self.assertEqual(ask(calls)[-2:], [[1, 2, 3, 1, 0, 0, 0], [0, 0, 0]])

    def test_three_in_any_order(self):
        for order in itertools.permutations(range(3)):
            self.check_each_alone([story(caller, 3 - caller, 3 + caller) for caller in order])

    def test_the_same_number_told_to_all(self):
        for me in range(4):
            self.check_each_alone([story(caller, me, 3 + caller) for caller in range(3)])

    def test_one_behind_another(self):
        stories = [story(2, 0, 6), story(0, 2, 3), story(1, 2, 4)]
        together = ask(stories[0] + stories[1] + stories[2])
        self.assertEqual(together, ask(stories[0]) + ask(stories[1]) + ask(stories[2]))

    def test_any_caller_alone(self):
        for caller in range(3):
            self.assertEqual(ask(story(caller, 1, 5)), ask(story(0, 1, 5)))

    def test_the_number_told_need_not_be_the_caller(self):
        calls = [start(2, 0), start(0, 2), say(2, 3, 4, 5), tell(2), hear(2, answer_to(2, 1)), hear(2, answer_to(0, 1))]
        self.assertEqual(ask(calls)[2:], [[0], [0, 1, 0, 0, 3, 4, 5], [-71], [1, 0]])

    def test_an_answer_is_heard_by_the_one_that_it_is_handed_to(self):
        calls = [start(0, 1), start(1, 1), say(0), say(1), hear(0, answer_to(1, 1)), open_ones(0), open_ones(1)]
        self.assertEqual(ask(calls)[-3:], [[1, 0], [0, 0, 1], [1, 1, 0]])

    def test_start_again_of_one_leaves_the_others(self):
        calls = [start(0, 0), start(1, 1), start(2, 2), say(0), say(1), say(2), start(1, 3)]
        calls += [state(0), state(1), state(2)]
        self.assertEqual(ask(calls)[-3:], [[1, 0, 0], [0, 3, 0], [1, 2, 0]])


if __name__ == "__main__":
    unittest.main()
