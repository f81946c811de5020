"""Callers and the shore with a radio between them that loses, doubles and brings late; drawn with fixed seeds."""

import random

from tests.helper import (
    ask, find, gaps, get, hear, kept_of, known, open_ones, said, say, shore_answer, shore_hear, shore_start,
    shore_state, start, state, tell,
)

TELLS = (2, 11)


class Sea:
    """One list of calls that grows round by round; what was told and isn't lost yet is in the air."""

    def __init__(self, seed):
        self.draw = random.Random(seed)
        self.numbers = self.draw.sample(range(4), 3)
        self.calls = [start(caller, me) for caller, me in enumerate(self.numbers)] + [shore_start()]
        self.draw.shuffle(self.calls)
        self.air = []

    def do(self, batch):
        """Puts the calls at the list's end, and what they tell in the air; gives back their answers."""
        answered = ask(self.calls + batch)[len(self.calls):]
        self.calls += batch
        self.air += [answer[1:] for call, answer in zip(batch, answered) if call[0] in TELLS and answer[0] >= 0]
        return answered

    def would(self, batch):
        """The answers to the calls if they stood at the list's end."""
        return ask(self.calls + batch)[len(self.calls):]

    def drawn_say(self, caller):
        return say(caller, self.draw.randint(1, 9), self.draw.choice([0, 1000000, self.draw.randint(0, 1000000)]),
                   self.draw.randint(0, 1000000))

    def handed_on(self):
        """What of the air is handed to whom in this round; each message is then lost or stays there, to come late."""
        batch, stays = [], []
        for message in self.air:
            own = [shore_hear(message)] if message[0] == 1 else [hear(caller, message) for caller in range(3)]
            batch += [one for one in own + own if self.draw.random() < 0.4]
            if self.draw.random() < 0.1:
                batch.append(self.draw.choice([shore_hear(message), hear(self.draw.randrange(3), message)]))
            if self.draw.random() < 0.3:
                stays.append(message)
        self.air = stays[-6:]
        return batch

    def round(self):
        """One round: some is called, some told, some answered and some handed on, in any order."""
        batch = self.handed_on()
        for caller in range(3):
            batch += [self.drawn_say(caller) for _ in range(self.draw.randrange(4))]
            batch += [tell(caller)] * self.draw.randrange(4)
        batch += [shore_answer(k) for k in range(4) if self.draw.random() < 0.5]
        self.draw.shuffle(batch)
        return self.do(batch)

    def called_and_known(self, caller):
        """What the caller called, one behind another, and the numbers of those that it knows to be heard."""
        count = self.would([state(caller)])[0][0]
        answered = self.would([said(caller, i) for i in range(count)] + [known(caller, i) for i in range(count)])
        return answered[:count], {i for i in range(count) if answered[count + i] == [1]}

    def still_open(self, caller):
        """How many of the caller's are open, and these as bits."""
        return self.would([open_ones(caller)])[0][:2]

    def kept(self):
        """What the shore keeps, in its order: the caller, the number, and the call as it's told."""
        count = self.would([shore_state()])[0][0]
        return [((k, number), [kind, x, y]) for kind, k, number, x, y in self.would([get(i) for i in range(count)])]

    def heard_by_shore(self):
        """The calls that the shore heard and didn't refuse, as often as it did."""
        return [call[3:] for call, answer in zip(self.calls, ask(self.calls)) if call[0] == 10 and answer[0] >= 0]


def shore_after(messages):
    """All that can be asked of a shore that heard these, but for their order and how often they came."""
    looks = [one for k in range(4) for one in (shore_answer(k), kept_of(k), gaps(k))]
    looks += [find(k, number) for k in range(4) for number in range(30)]
    answered = ask([shore_start()] + [shore_hear(message) for message in messages] + [shore_state()] + looks)
    return answered[len(messages) + 1][0], answered[len(messages) + 2:]
