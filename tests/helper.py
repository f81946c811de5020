"""The calls in words, and ways to ask for their answers."""

from calledshores.radio import answers

GREATEST = 4294967295
MOST_VALUE = 1000000


def start(caller, me):
    return [0, caller, me]


def say(caller, kind=1, x=0, y=0):
    return [1, caller, kind, x, y]


def tell(caller):
    return [2, caller]


def hear(caller, message):
    return [3, caller, len(message)] + list(message)


def known(caller, i):
    return [4, caller, i]


def open_ones(caller):
    return [5, caller]


def said(caller, i):
    return [6, caller, i]


def would(caller, message):
    return [7, caller, len(message)] + list(message)


def state(caller):
    return [8, caller]


def shore_start():
    return [9, 0]


def shore_hear(message):
    return [10, 0, len(message)] + list(message)


def shore_answer(k):
    return [11, 0, k]


def get(i):
    return [12, 0, i]


def find(k, i):
    return [13, 0, k, i]


def kept_of(k):
    return [14, 0, k]


def gaps(k):
    return [15, 0, k]


def shore_state():
    return [16, 0]


def call_of(k, number, kind=1, x=0, y=0):
    """The message by which caller k tells its call of this number."""
    return [1, k, number, kind, x, y]


def answer_to(me, all_there, bits=0):
    """The message that answers the caller whose number is me."""
    return [2, me, all_there, bits, 0, 0]


def flat(calls):
    """The calls one behind another in one list."""
    return [number for call in calls for number in call]


def split(given):
    """The answers one by one, out of the list that's given back."""
    found = []
    at = 0
    while at < len(given):
        count = given[at]
        found.append(given[at + 1:at + 1 + count])
        at += 1 + count
    return found


def ask(calls):
    """The answer to each of the calls."""
    assert 1 <= len(calls) <= 1000, "no such list may be handed in"
    return split(answers(flat(calls)))


def last(calls):
    """The answer to the last of the calls."""
    return ask(calls)[-1]


def many(count, caller=0):
    """So many calls that differ from one another; the first eight can be called at once."""
    return [say(caller, 1 + i % 9, 100 + i, 200 + i) for i in range(count)]


def heard_as_called(count, caller=0, me=0):
    """So many calls, each known to be heard before the next is called."""
    calls = []
    for i in range(count):
        calls += [say(caller, 1 + i % 9, 100 + i, 200 + i), hear(caller, answer_to(me, i + 1))]
    return calls


def differing(k, number):
    """Caller k's call of this number, with two numbers that no other one made here has."""
    return call_of(k, number, 1 + (k + number) % 9, 1000 * k + number, 500000 + 1000 * k + number)


def shore_hears(k, numbers):
    """The shore hears these calls of caller k, in this order."""
    return [shore_hear(differing(k, number)) for number in numbers]


def probe(caller):
    """Calls whose answers show all that a caller keeps: first what only looks, then what changes."""
    calls = [state(caller), open_ones(caller)]
    for i in range(31):
        calls += [known(caller, i), said(caller, i)]
    for me in range(4):
        calls += [would(caller, answer_to(me, count)) for count in range(31)]
    calls += [tell(caller)] * 9 + [state(caller)]
    return calls + [say(caller, 9, 7, 8), tell(caller), open_ones(caller), state(caller)]


def shore_looks():
    """Calls whose answers show all that the shore keeps, and which change nothing."""
    calls = [shore_state()] + [get(i) for i in range(121)]
    for k in range(4):
        calls += [shore_answer(k), kept_of(k), gaps(k)] + [find(k, number) for number in range(31)]
    return calls


def shore_probe():
    """Calls whose answers show all that the shore keeps: first what only looks, then what changes."""
    calls = shore_looks()
    for k in range(4):
        calls += shore_hears(k, range(0, 30, 4))
    return calls + shore_looks()


def check_refused(test, before, call, refusal):
    """After the calls before, the call on caller 0 is answered with the refusal alone, and leaves all as it was."""
    check_leaves_all(test, before, call, [refusal], probe(0))


def check_shore_refused(test, before, call, refusal):
    """After the calls before, the call on the shore is answered with the refusal alone, and leaves all as it was."""
    check_leaves_all(test, before, call, [refusal], shore_probe())


def check_leaves_all(test, before, call, answer, rest):
    """After the calls before, the call is answered so, and the rest behind it as if the call weren't there."""
    with_call = ask(before + [call] + rest)
    without_call = ask(before + rest)
    test.assertEqual(with_call[len(before)], answer)
    test.assertEqual(with_call[:len(before)], without_call[:len(before)])
    test.assertEqual(with_call[len(before) + 1:], without_call[len(before):])
