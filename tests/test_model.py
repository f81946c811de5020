"""Long lists of calls, held against a second telling of the document, and 'None forgotten' along them.

The lists are drawn with fixed seeds, so that each run asks the same.
"""

import random
import unittest

from tests.helper import (
    GREATEST, MOST_VALUE, answer_to, ask, hear, known, open_ones, said, say, start, state, tell, would,
)


class Model:
    """A caller as the document tells it: sets of numbers, nothing kept that can be worked out."""

    def __init__(self, me):
        self.me, self.calls, self.heard, self.tellings = me, [], set(), []

    def still_open(self):
        return sorted(set(range(len(self.calls))) - self.heard)

    def say(self, *call):
        if not (1 <= call[0] <= 9 and max(call[1:]) <= MOST_VALUE):
            return [-22]
        still = self.still_open()
        if len(self.calls) == 30 or (still and len(self.calls) >= still[0] + 8):
            return [-28]
        self.calls.append(call)
        return [len(self.calls) - 1]

    def tell(self):
        still = self.still_open()
        if not still:
            return [-6]
        behind = [i for i in still if self.tellings and i > self.tellings[-1]]
        self.tellings.append((behind or still)[0])
        return [self.tellings[-1], 1, self.me, self.tellings[-1], *self.calls[self.tellings[-1]]]

    def fresh(self, message):
        first, me, all_there, bits, *zeros = message
        if first != 2 or me != self.me or zeros != [0, 0] or bits > 255 or all_there > len(self.calls):
            return None
        tells = {i for i in range(30 + 9) if i < all_there or (i > all_there and bits >> (i - all_there - 1) & 1)}
        return tells - self.heard if tells <= set(range(len(self.calls))) else None

    def hear(self, message):
        fresh = self.fresh(message)
        if fresh is None:
            return [-71]
        self.heard |= fresh
        return [len(fresh), len(self.still_open())]

    def would(self, message):
        fresh = self.fresh(message)
        return [-71] if fresh is None else [len(fresh)]

    def look(self, number, i):
        if i >= len(self.calls):
            return [-2]
        return [int(i in self.heard)] if number == 4 else list(self.calls[i])

    def open_ones(self):
        still = self.still_open()
        return [len(still), sum(1 << i for i in still), min(still, default=len(self.calls))]


def model_answer(models, call):
    number, caller, *rest = call
    if number == 0:
        if rest[0] > 3:
            return [-22]
        models[caller] = Model(rest[0])
        return [0]
    model = models[caller]
    if number in (4, 6):
        return model.look(number, rest[0])
    if number == 8:
        return [len(model.calls), model.me, len(model.tellings)]
    if number in (3, 7):
        return (model.hear if number == 3 else model.would)(rest[1:])
    return {1: model.say, 2: model.tell, 5: model.open_ones}[number](*rest)


def drawn_message(draw, model):
    count = len(model.calls)
    first_open = min(model.still_open(), default=count)
    message = answer_to(model.me, draw.choice([first_open, draw.randint(0, count), count, count + 1]))
    room = max(0, min(8, count - message[2] - 1))
    message[3] = draw.choice([0, draw.randrange(1 << room), draw.randrange(1 << room), draw.choice([1, 128, 255, 256])])
    if draw.random() < 0.1:
        message[draw.randrange(6)] = draw.choice([0, 1, 2, 3, 4, 30, 31, GREATEST])
    return message


def drawn_call(draw, models):
    caller = draw.randrange(3)
    if caller not in models or draw.random() < 0.004:
        return start(caller, draw.choice([0, 1, 2, 3, 3, 4, GREATEST]))
    model = models[caller]
    number = draw.choice([1, 1, 1, 2, 2, 2, 3, 3, 3, 4, 5, 6, 7, 8])
    if number == 1:
        value = [0, 1, MOST_VALUE, draw.randint(0, MOST_VALUE)] * 5 + [MOST_VALUE + 1, GREATEST]
        kind = draw.choice(list(range(1, 10)) * 4 + [0, 10, GREATEST])
        return say(caller, kind, draw.choice(value), draw.choice(value))
    if number in (3, 7):
        return (hear if number == 3 else would)(caller, drawn_message(draw, model))
    if number in (4, 6):
        i = draw.choice([0, draw.randint(0, 30), max(0, len(model.calls) - 1), len(model.calls), GREATEST])
        return (known if number == 4 else said)(caller, i)
    return {2: tell, 5: open_ones, 8: state}[number](caller)


def drawn_list(seed, count):
    """So many calls, with what the model answers to each."""
    draw = random.Random(seed)
    models, calls, expected = {}, [], []
    for _ in range(count):
        calls.append(drawn_call(draw, models))
        expected.append(model_answer(models, calls[-1]))
    return calls, expected, models


class ModelTest(unittest.TestCase):
    def test_the_same_answers_as_the_model(self):
        for seed in range(120):
            calls, expected, _ = drawn_list(seed, 1000 if seed % 4 == 0 else 150)
            self.assertEqual(ask(calls), expected, f"seed {seed}")

    def test_the_lists_come_to_every_answer_and_refusal(self):
        seen = set()
        for seed in range(0, 40, 4):
            calls, expected, _ = drawn_list(seed, 1000)
            seen |= {(call[0], min(answer[0], 0)) for call, answer in zip(calls, expected)}
        refusals = {(0, -22), (1, -22), (1, -28), (2, -6), (3, -71), (4, -2), (6, -2), (7, -71)}
        self.assertEqual(seen, refusals | {(number, 0) for number in range(9)})


class NoneForgottenTest(unittest.TestCase):
    def test_all_open_ones_are_told_within_as_many_tellings(self):
        for seed in range(200):
            calls, _, models = drawn_list(seed, 20 + seed)
            for caller in models:
                still = ask(calls + [open_ones(caller)])[-1]
                told = ask(calls + [tell(caller)] * still[0])[len(calls):]
                numbers = [answer[0] for answer in told]
                self.assertEqual(sum(1 << number for number in set(numbers)), still[1], f"seed {seed}")

    def test_what_is_known_stays_known(self):
        for seed in range(60):
            calls, expected, _ = drawn_list(seed, 150)
            looked = ask([one for call in calls for one in self.with_looks(call)])
            self.check_stays(calls, expected, looked)

    def with_looks(self, call):
        """The call, and behind one that's not a start what's open then and how many were called."""
        return [call] if call[0] == 0 else [call, open_ones(call[1]), state(call[1])]

    def check_stays(self, calls, expected, looked):
        at, kept = 0, {}
        for call, answer in zip(calls, expected):
            self.assertEqual(looked[at], answer)
            at += 1
            if call[0] == 0:
                kept = {key: value for key, value in kept.items() if key != call[1] or answer != [0]}
                continue
            bits, count = looked[at][1], looked[at + 1][0]
            at += 2
            heard = ((1 << count) - 1) & ~bits
            self.assertEqual(kept.get(call[1], 0) & ~heard, 0)
            kept[call[1]] = heard


if __name__ == "__main__":
    unittest.main()
