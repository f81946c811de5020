"""Calls that are answered: one list of calls handed in, one list of their answers given back.

It is all in this one file because the interface imports nothing.
"""

# The calls, by the numbers that the interface gives them.
CA_START = 0
CA_SAY = 1
CA_TELL = 2
CA_HEAR = 3
CA_KNOWN = 4
CA_OPEN = 5
CA_SAID = 6
CA_WOULD = 7
CA_STATE = 8
SH_START = 9
SH_HEAR = 10
SH_ANSWER = 11
SH_GET = 12
SH_FIND = 13
SH_OF = 14
SH_GAPS = 15
SH_STATE = 16

# How many numbers each call takes up in the list, its own number, its object and a row's count among them.
CALL_LENGTHS = (3, 5, 2, 9, 3, 2, 3, 9, 2, 2, 9, 3, 3, 4, 3, 3, 2)

# Where a message begins in such a call: behind the call's number, its object and the row's count.
MESSAGE_AT = 3

# Refusals. Each is answered below 0.
NO_SUCH = 2
NONE_THERE = 6
OUT_OF_RANGE = 22
NO_ROOM = 28
NOT_GOOD = 71
KEPT_OTHERWISE = 74

# The first number of a message.
A_CALL = 1
AN_ANSWER = 2

GREATEST_CALLER = 3
GREATEST_KIND = 9
GREATEST_VALUE = 1000000
MOST_CALLS = 30
MOST_COUNTED = 1000000

# A caller runs no further than this ahead of its first open call, so that one answer can tell of all that's open.
REACH = 8

# So many calls behind the gap are told of by an answer's bits.
ANSWER_BITS = 8
BITS_END = 256


class Caller:
    """One caller: what it called, what of it is known to be heard, and how far and how often it told."""

    def __init__(self, me):
        self.me = me
        self.said = []
        self.known = []
        self.told = 0
        self.tell_from = 0

    def called(self):
        """How many it called."""
        return len(self.said)

    def has_call(self, number):
        """Whether it called one of this number."""
        return number < len(self.said)

    def open_numbers(self):
        """The numbers of the open calls, in order."""
        return [number for number in range(len(self.known)) if not self.known[number]]

    def first_open_from(self, start):
        """The first open call that's not ahead of start, or how many were called if there's none."""
        number = start
        while number < len(self.known) and self.known[number]:
            number += 1
        return number

    def may_call(self):
        """Whether another one may be called now."""
        number = len(self.said)
        return number < MOST_CALLS and number - self.first_open_from(0) < REACH

    def told_next(self):
        """The open call that's told next, or how many were called if none is open."""
        number = self.first_open_from(self.tell_from)
        if number < len(self.said):
            return number
        return self.first_open_from(0)


class Shore:
    """The shore: which calls it keeps and in what order they came, what each of them was, and how many came again."""

    def __init__(self):
        self.order = []
        self.kept = {}
        self.again = 0

    def how_many(self):
        """How many calls are kept, of all callers."""
        return len(self.order)

    def keeps(self, k, number):
        """Whether caller k's call of this number is kept."""
        return (k, number) in self.kept

    def first_gap(self, k):
        """The first of caller k's calls that isn't kept, which is also how many are all there."""
        number = 0
        while self.keeps(k, number):
            number += 1
        return number

    def numbers_kept(self, k):
        """The numbers of caller k's calls that are kept, in their own order."""
        return [number for number in range(MOST_CALLS) if self.keeps(k, number)]

    def numbers_missing(self, k):
        """The numbers of caller k's calls that aren't kept though a later one is."""
        end = max(self.numbers_kept(k), default=0)
        return [number for number in range(end) if not self.keeps(k, number)]


def refused(refusal):
    """The answer of a call that's refused."""
    return [-refusal]


def as_bits(numbers):
    """The numbers, each of them once, as bits of one number."""
    bits = 0
    for number in numbers:
        bits += 1 << number
    return bits


def in_range(kind, x, y):
    """Whether a call may be of this kind and have these two numbers."""
    return 1 <= kind and kind <= GREATEST_KIND and x <= GREATEST_VALUE and y <= GREATEST_VALUE


def is_call(message):
    """Whether the message is a call."""
    if message[0] != A_CALL or message[1] > GREATEST_CALLER or message[2] >= MOST_CALLS:
        return False
    return in_range(message[3], message[4], message[5])


def numbers_told(message):
    """The calls that an answer tells of; asked only of one whose count was found small enough to walk."""
    all_there = message[2]
    numbers = list(range(all_there))
    for bit in range(ANSWER_BITS):
        if (message[3] >> bit) & 1 == 1:
            numbers.append(all_there + 1 + bit)
    return numbers


def is_good(caller, message):
    """Whether the message is an answer that's good for the caller."""
    if message[0] != AN_ANSWER or message[1] != caller.me:
        return False
    if message[4] != 0 or message[5] != 0:
        return False
    if message[2] > caller.called() or message[3] >= BITS_END:
        return False
    for number in numbers_told(message):
        if not caller.has_call(number):
            return False
    return True


def newly_known(caller, message):
    """The open calls of which a good answer tells that they're heard."""
    return [number for number in numbers_told(message) if not caller.known[number]]


def ca_start(callers, place, me):
    """Puts a new caller in its place; a refused start leaves the one that was there."""
    if me > GREATEST_CALLER:
        return refused(OUT_OF_RANGE)
    callers[place] = Caller(me)
    return [0]


def ca_say(caller, kind, x, y):
    """Calls another one."""
    if not in_range(kind, x, y):
        return refused(OUT_OF_RANGE)
    if not caller.may_call():
        return refused(NO_ROOM)
    caller.said.append((kind, x, y))
    caller.known.append(False)
    return [caller.called() - 1]


def ca_tell(caller):
    """Tells the open call whose turn it is."""
    number = caller.told_next()
    if not caller.has_call(number):
        return refused(NONE_THERE)
    caller.tell_from = number + 1
    caller.told = min(caller.told + 1, MOST_COUNTED)
    return [number, A_CALL, caller.me, number] + list(caller.said[number])


def ca_hear(caller, message):
    """Hears an answer."""
    if not is_good(caller, message):
        return refused(NOT_GOOD)
    numbers = newly_known(caller, message)
    for number in numbers:
        caller.known[number] = True
    return [len(numbers), len(caller.open_numbers())]


def ca_known(caller, i):
    """Whether call i is known to be heard."""
    if not caller.has_call(i):
        return refused(NO_SUCH)
    return [1 if caller.known[i] else 0]


def ca_open(caller):
    """Which calls are open."""
    numbers = caller.open_numbers()
    return [len(numbers), as_bits(numbers), caller.first_open_from(0)]


def ca_said(caller, i):
    """What call i was."""
    if not caller.has_call(i):
        return refused(NO_SUCH)
    return list(caller.said[i])


def ca_would(caller, message):
    """How many calls hearing the answer would make known."""
    if not is_good(caller, message):
        return refused(NOT_GOOD)
    return [len(newly_known(caller, message))]


def ca_state(caller):
    """Who the caller is, how often it told and how many it called."""
    return [caller.called(), caller.me, caller.told]


def sh_start(shores, place):
    """Puts a new shore in its place."""
    shores[place] = Shore()
    return [0]


def sh_hear(shore, message):
    """Hears a call, and keeps it if it wasn't kept yet."""
    if not is_call(message):
        return refused(NOT_GOOD)
    key = (message[1], message[2])
    what = (message[3], message[4], message[5])
    if key not in shore.kept:
        shore.order.append(key)
        shore.kept[key] = what
        return [1, shore.how_many()]
    if shore.kept[key] != what:
        return refused(KEPT_OTHERWISE)
    shore.again = min(shore.again + 1, MOST_COUNTED)
    return [0, shore.how_many()]


def sh_answer(shore, k):
    """Answers caller k how far its calls are all there, and which of the next behind the gap are."""
    if k > GREATEST_CALLER:
        return refused(NO_SUCH)
    gap = shore.first_gap(k)
    behind = [bit for bit in range(ANSWER_BITS) if shore.keeps(k, gap + 1 + bit)]
    return [gap, AN_ANSWER, k, gap, as_bits(behind), 0, 0]


def sh_get(shore, i):
    """The call that was kept as i-th."""
    if i >= shore.how_many():
        return refused(NO_SUCH)
    key = shore.order[i]
    what = shore.kept[key]
    return [what[0], key[0], key[1], what[1], what[2]]


def sh_find(shore, k, i):
    """What caller k's call i was."""
    if k > GREATEST_CALLER:
        return refused(NO_SUCH)
    if not shore.keeps(k, i):
        return refused(NONE_THERE)
    return list(shore.kept[(k, i)])


def sh_of(shore, k):
    """Which of caller k's calls are kept."""
    if k > GREATEST_CALLER:
        return refused(NO_SUCH)
    numbers = shore.numbers_kept(k)
    return [len(numbers), as_bits(numbers)]


def sh_gaps(shore, k):
    """Which of caller k's calls aren't kept though a later one is."""
    if k > GREATEST_CALLER:
        return refused(NO_SUCH)
    numbers = shore.numbers_missing(k)
    return [len(numbers), as_bits(numbers)]


def sh_state(shore):
    """How many calls are kept, and how often one was heard again."""
    return [shore.how_many(), shore.again]


def caller_answer(callers, call):
    """The answer to one call of a caller."""
    number = call[0]
    if number == CA_START:
        return ca_start(callers, call[1], call[2])
    caller = callers[call[1]]
    if number == CA_SAY:
        return ca_say(caller, call[2], call[3], call[4])
    if number == CA_TELL:
        return ca_tell(caller)
    if number == CA_HEAR:
        return ca_hear(caller, call[MESSAGE_AT:])
    if number == CA_KNOWN:
        return ca_known(caller, call[2])
    if number == CA_OPEN:
        return ca_open(caller)
    if number == CA_SAID:
        return ca_said(caller, call[2])
    if number == CA_WOULD:
        return ca_would(caller, call[MESSAGE_AT:])
    return ca_state(caller)


def shore_answer(shores, call):
    """The answer to one call of the shore."""
    number = call[0]
    if number == SH_START:
        return sh_start(shores, call[1])
    shore = shores[call[1]]
    if number == SH_HEAR:
        return sh_hear(shore, call[MESSAGE_AT:])
    if number == SH_ANSWER:
        return sh_answer(shore, call[2])
    if number == SH_GET:
        return sh_get(shore, call[2])
    if number == SH_FIND:
        return sh_find(shore, call[2], call[3])
    if number == SH_OF:
        return sh_of(shore, call[2])
    if number == SH_GAPS:
        return sh_gaps(shore, call[2])
    return sh_state(shore)


def one_answer(callers, shores, call):
    """The answer to one call."""
    if call[0] < SH_START:
        return caller_answer(callers, call)
    return shore_answer(shores, call)


def answers(calls):
    """Answers each call of the list in order: how many numbers are answered, then these."""
    # No caller and no shore is there yet: no call but a start comes ahead of one that's answered with 0.
    callers = [None, None, None]
    shores = [None]
    given = []
    at = 0
    while at < len(calls):
        end = at + CALL_LENGTHS[calls[at]]
        answer = one_answer(callers, shores, calls[at:end])
        given.append(len(answer))
        given.extend(answer)
        at = end
    return given
