"""Calls that are answered: one list of calls handed in, one list of their answers given back.

It is all in this one file because the interface imports nothing.
"""

# The calls, by the numbers that the interface gives them.
CA_START = 0
CA_SAY = 1
CA_TELL = 2
CA_HEAR = 3
CA_KNOWN = 4
CA_OPEN = 5
CA_SAID = 6
CA_WOULD = 7
CA_STATE = 8

# How many numbers each call takes up in the list, its own number, its object and a row's count among them.
CALL_LENGTHS = (3, 5, 2, 9, 3, 2, 3, 9, 2)

# Where a message begins in such a call: behind the call's number, its object and the row's count.
MESSAGE_AT = 3

# Refusals. Each is answered below 0.
NO_SUCH_CALL = 2
NONE_OPEN = 6
OUT_OF_RANGE = 22
NO_ROOM = 28
NOT_GOOD = 71

# The first number of a message.
A_CALL = 1
AN_ANSWER = 2

GREATEST_CALLER = 3
GREATEST_KIND = 9
GREATEST_VALUE = 1000000
MOST_CALLS = 30
MOST_TOLD = 1000000

# A caller runs no further than this ahead of its first open call, so that one answer can tell of all that's open.
REACH = 8

# So many calls behind the gap are told of by an answer's bits.
ANSWER_BITS = 8
BITS_END = 256


class Caller:
    """One caller: what it called, what of it is known to be heard, and how far and how often it told."""

    def __init__(self, me):
        self.me = me
        self.said = []
        self.known = []
        self.told = 0
        self.tell_from = 0

    def called(self):
        """How many it called."""
        return len(self.said)

    def has_call(self, number):
        """Whether it called one of this number."""
        return number < len(self.said)

    def open_numbers(self):
        """The numbers of the open calls, in order."""
        return [number for number in range(len(self.known)) if not self.known[number]]

    def first_open_from(self, start):
        """The first open call that's not ahead of start, or how many were called if there's none."""
        number = start
        while number < len(self.known) and self.known[number]:
            number += 1
        return number

    def may_call(self):
        """Whether another one may be called now."""
        number = len(self.said)
        return number < MOST_CALLS and number - self.first_open_from(0) < REACH

    def told_next(self):
        """The open call that's told next, or how many were called if none is open."""
        number = self.first_open_from(self.tell_from)
        if number < len(self.said):
            return number
        return self.first_open_from(0)


def refused(refusal):
    """The answer of a call that's refused."""
    return [-refusal]


def numbers_told(message):
    """The calls that an answer tells of; asked only of one whose count was found small enough to walk."""
    all_there = message[2]
    numbers = list(range(all_there))
    for bit in range(ANSWER_BITS):
        if (message[3] >> bit) & 1 == 1:
            numbers.append(all_there + 1 + bit)
    return numbers


def is_good(caller, message):
    """Whether the message is an answer that's good for the caller."""
    if message[0] != AN_ANSWER or message[1] != caller.me:
        return False
    if message[4] != 0 or message[5] != 0:
        return False
    if message[2] > caller.called() or message[3] >= BITS_END:
        return False
    for number in numbers_told(message):
        if not caller.has_call(number):
            return False
    return True


def newly_known(caller, message):
    """The open calls of which a good answer tells that they're heard."""
    return [number for number in numbers_told(message) if not caller.known[number]]


def ca_start(callers, place, me):
    """Puts a new caller in its place; a refused start leaves the one that was there."""
    if me > GREATEST_CALLER:
        return refused(OUT_OF_RANGE)
    callers[place] = Caller(me)
    return [0]


def ca_say(caller, kind, x, y):
    """Calls another one."""
    if kind < 1 or kind > GREATEST_KIND or x > GREATEST_VALUE or y > GREATEST_VALUE:
        return refused(OUT_OF_RANGE)
    if not caller.may_call():
        return refused(NO_ROOM)
    caller.said.append((kind, x, y))
    caller.known.append(False)
    return [caller.called() - 1]


def ca_tell(caller):
    """Tells the open call whose turn it is."""
    number = caller.told_next()
    if not caller.has_call(number):
        return refused(NONE_OPEN)
    caller.tell_from = number + 1
    caller.told = min(caller.told + 1, MOST_TOLD)
    return [number, A_CALL, caller.me, number] + list(caller.said[number])


def ca_hear(caller, message):
    """Hears an answer."""
    if not is_good(caller, message):
        return refused(NOT_GOOD)
    numbers = newly_known(caller, message)
    for number in numbers:
        caller.known[number] = True
    return [len(numbers), len(caller.open_numbers())]


def ca_known(caller, i):
    """Whether call i is known to be heard."""
    if not caller.has_call(i):
        return refused(NO_SUCH_CALL)
    return [1 if caller.known[i] else 0]


def ca_open(caller):
    """Which calls are open."""
    numbers = caller.open_numbers()
    bits = 0
    for number in numbers:
        bits += 1 << number
    return [len(numbers), bits, caller.first_open_from(0)]


def ca_said(caller, i):
    """What call i was."""
    if not caller.has_call(i):
        return refused(NO_SUCH_CALL)
    return list(caller.said[i])


def ca_would(caller, message):
    """How many calls hearing the answer would make known."""
    if not is_good(caller, message):
        return refused(NOT_GOOD)
    return [len(newly_known(caller, message))]


def ca_state(caller):
    """Who the caller is, how often it told and how many it called."""
    return [caller.called(), caller.me, caller.told]


def caller_answer(callers, call):
    """The answer to one call of a caller."""
    number = call[0]
    if number == CA_START:
        return ca_start(callers, call[1], call[2])
    caller = callers[call[1]]
    if number == CA_SAY:
        return ca_say(caller, call[2], call[3], call[4])
    if number == CA_TELL:
        return ca_tell(caller)
    if number == CA_HEAR:
        return ca_hear(caller, call[MESSAGE_AT:])
    if number == CA_KNOWN:
        return ca_known(caller, call[2])
    if number == CA_OPEN:
        return ca_open(caller)
    if number == CA_SAID:
        return ca_said(caller, call[2])
    if number == CA_WOULD:
        return ca_would(caller, call[MESSAGE_AT:])
    return ca_state(caller)


def answers(calls):
    """Answers each call of the list in order: how many numbers are answered, then these."""
    # No caller is there yet: no call but a start comes ahead of one that's answered with 0.
    callers = [None, None, None]
    given = []
    at = 0
    while at < len(calls):
        end = at + CALL_LENGTHS[calls[at]]
        answer = caller_answer(callers, calls[at:end])
        given.append(len(answer))
        given.extend(answer)
        at = end
    return given
