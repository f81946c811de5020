"""A second telling of the document, and long lists of calls drawn along it.

The lists are drawn with fixed seeds, so that each run asks the same.
"""

import random

from tests.helper import (
    GREATEST, MOST_VALUE, answer_to, call_of, find, gaps, get, hear, kept_of, known, open_ones, said, say, shore_answer,
    shore_hear, shore_start, shore_state, start, state, tell, would,
)

SHORE = "shore"


class Model:
    """A caller as the document tells it: sets of numbers, nothing kept that can be worked out."""

    def __init__(self, me):
        self.me, self.calls, self.heard, self.tellings = me, [], set(), []

    def still_open(self):
        return sorted(set(range(len(self.calls))) - self.heard)

    def say(self, *call):
        if not (1 <= call[0] <= 9 and max(call[1:]) <= MOST_VALUE):
            return [-22]
        still = self.still_open()
        if len(self.calls) == 30 or (still and len(self.calls) >= still[0] + 8):
            return [-28]
        self.calls.append(call)
        return [len(self.calls) - 1]

    def tell(self):
        still = self.still_open()
        if not still:
            return [-6]
        behind = [i for i in still if self.tellings and i > self.tellings[-1]]
        self.tellings.append((behind or still)[0])
        return [self.tellings[-1], 1, self.me, self.tellings[-1], *self.calls[self.tellings[-1]]]

    def fresh(self, message):
        first, me, all_there, bits, *zeros = message
        if first != 2 or me != self.me or zeros != [0, 0] or bits > 255 or all_there > len(self.calls):
            return None
        tells = {i for i in range(30 + 9) if i < all_there or (i > all_there and bits >> (i - all_there - 1) & 1)}
        return tells - self.heard if tells <= set(range(len(self.calls))) else None

    def hear(self, message):
        fresh = self.fresh(message)
        if fresh is None:
            return [-71]
        self.heard |= fresh
        return [len(fresh), len(self.still_open())]

    def would(self, message):
        fresh = self.fresh(message)
        return [-71] if fresh is None else [len(fresh)]

    def look(self, number, i):
        if i >= len(self.calls):
            return [-2]
        return [int(i in self.heard)] if number == 4 else list(self.calls[i])

    def open_ones(self):
        still = self.still_open()
        return [len(still), sum(1 << i for i in still), min(still, default=len(self.calls))]


class ShoreModel:
    """The shore as the document tells it: the messages that it kept, in their order."""

    def __init__(self):
        self.messages, self.repeats = [], 0

    def hear(self, message):
        first, k, number, kind, *values = message
        if first != 1 or k not in range(4) or number not in range(30) or kind not in range(1, 10):
            return [-71]
        if max(values) > MOST_VALUE:
            return [-71]
        same = [one for one in self.messages if one[:3] == message[:3]]
        if same and same != [message]:
            return [-74]
        self.repeats += len(same)
        if not same:
            self.messages.append(message)
        return [1 - len(same), len(self.messages)]

    def numbers(self, k):
        return {one[2] for one in self.messages if one[1] == k}

    def answer(self, k):
        there = self.numbers(k)
        gap = min(set(range(31)) - there)
        return [gap, 2, k, gap, sum(1 << (i - gap - 1) for i in there if gap < i < gap + 9), 0, 0]

    def get(self, i):
        if i >= len(self.messages):
            return [-2]
        _, k, number, kind, x, y = self.messages[i]
        return [kind, k, number, x, y]

    def find(self, k, i):
        return ([one[3:] for one in self.messages if one[1:3] == [k, i]] or [[-6]])[0]

    def gaps(self, k):
        there = self.numbers(k)
        return {i for i in range(30) if i not in there and any(later > i for later in there)}


def as_set(numbers):
    """A set of numbers as it's answered: how many, then these as bits."""
    return [len(numbers), sum(1 << number for number in numbers)]


def shore_model_answer(models, call):
    number, _, *rest = call
    if number == 9:
        models[SHORE] = ShoreModel()
        return [0]
    model = models[SHORE]
    if number in (11, 13, 14, 15) and rest[0] > 3:
        return [-2]
    if number in (14, 15):
        return as_set((model.numbers if number == 14 else model.gaps)(rest[0]))
    if number == 16:
        return [len(model.messages), model.repeats]
    return model.hear(rest[1:]) if number == 10 else {11: model.answer, 12: model.get, 13: model.find}[number](*rest)


def model_answer(models, call):
    number, caller, *rest = call
    if number > 8:
        return shore_model_answer(models, call)
    if number == 0:
        if rest[0] > 3:
            return [-22]
        models[caller] = Model(rest[0])
        return [0]
    model = models[caller]
    if number in (4, 6):
        return model.look(number, rest[0])
    if number == 8:
        return [len(model.calls), model.me, len(model.tellings)]
    if number in (3, 7):
        return (model.hear if number == 3 else model.would)(rest[1:])
    return {1: model.say, 2: model.tell, 5: model.open_ones}[number](*rest)


class Drawing:
    """Draws calls one by one, and knows what the models answer to them; what was told stays in the air."""

    def __init__(self, seed):
        self.draw, self.models, self.air = random.Random(seed), {}, []

    def next_call(self):
        place = self.draw.choice([0, 1, 2, SHORE, SHORE])
        started = place in self.models and self.draw.random() >= 0.004
        if place == SHORE:
            return self.shore_call() if started else shore_start()
        return self.caller_call(place) if started else start(place, self.draw.choice([0, 1, 2, 3, 3, 4, GREATEST]))

    def answer(self, call):
        answered = model_answer(self.models, call)
        if call[0] in (2, 11) and answered[0] >= 0:
            self.air.append(answered[1:])
        return answered

    def spoilt(self, message, chance):
        """The message, or now and then one with a number put wrong."""
        message = list(message)
        if self.draw.random() < chance:
            edges = [0, 1, 2, 3, 4, 9, 10, 29, 30, 31, MOST_VALUE, MOST_VALUE + 1, GREATEST]
            message[self.draw.randrange(6)] = self.draw.choice(edges)
        return message

    def value(self):
        draw = self.draw
        return draw.choice([0, 1, MOST_VALUE, draw.randint(0, MOST_VALUE)] * 5 + [MOST_VALUE + 1, GREATEST])

    def kind(self):
        return self.draw.choice(list(range(1, 10)) * 4 + [0, 10, GREATEST])

    def answer_heard(self, model):
        if self.air and self.draw.random() < 0.3:
            return self.spoilt(self.draw.choice(self.air), 0.05)
        count = len(model.calls)
        first_open = min(model.still_open(), default=count)
        message = answer_to(model.me, self.draw.choice([first_open, self.draw.randint(0, count), count, count + 1]))
        room = max(0, min(8, count - message[2] - 1))
        some = [self.draw.randrange(1 << room), self.draw.randrange(1 << room)]
        message[3] = self.draw.choice([0, self.draw.choice([1, 128, 255, 256])] + some)
        return self.spoilt(message, 0.1)

    def call_heard(self, model):
        draw = self.draw
        if self.air and draw.random() < 0.5:
            return self.spoilt(draw.choice(self.air), 0.1)
        if model.messages and draw.random() < 0.2:
            return self.spoilt(draw.choice(model.messages), 0.3)
        k = draw.randrange(4)
        number = draw.choice([len(model.numbers(k)), draw.randrange(30)]) % 30
        return self.spoilt(call_of(k, number, self.kind(), self.value(), self.value()), 0.1)

    def caller_call(self, caller):
        model = self.models[caller]
        number = self.draw.choice([1, 1, 1, 2, 2, 2, 3, 3, 3, 4, 5, 6, 7, 8])
        if number == 1:
            return say(caller, self.kind(), self.value(), self.value())
        if number in (3, 7):
            return (hear if number == 3 else would)(caller, self.answer_heard(model))
        if number in (4, 6):
            count = len(model.calls)
            i = self.draw.choice([0, self.draw.randint(0, 30), max(0, count - 1), count, GREATEST])
            return (known if number == 4 else said)(caller, i)
        return {2: tell, 5: open_ones, 8: state}[number](caller)

    def shore_call(self):
        model = self.models[SHORE]
        number = self.draw.choice([10] * 8 + [11, 11, 12, 13, 14, 15, 16])
        k = self.draw.choice([0, 1, 2, 3] * 4 + [4, GREATEST])
        if number == 10:
            return shore_hear(self.call_heard(model))
        if number == 12:
            count = len(model.messages)
            return get(self.draw.choice([0, self.draw.randint(0, 120), max(0, count - 1), count, GREATEST]))
        if number == 13:
            return find(k, self.draw.choice([self.draw.randrange(32), *model.numbers(k), GREATEST]))
        return shore_state() if number == 16 else {11: shore_answer, 14: kept_of, 15: gaps}[number](k)


def drawn_list(seed, count):
    """So many calls, what the models answer to each, and the models as they are then."""
    drawing = Drawing(seed)
    calls, expected = [], []
    for _ in range(count):
        calls.append(drawing.next_call())
        expected.append(drawing.answer(calls[-1]))
    return calls, expected, drawing.models
