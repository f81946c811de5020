"""The calls in words, and ways to ask for their answers."""

from calledshores.radio import answers

GREATEST = 4294967295
MOST_VALUE = 1000000


def start(caller, me):
    return [0, caller, me]


def say(caller, kind=1, x=0, y=0):
    return [1, caller, kind, x, y]


def tell(caller):
    return [2, caller]


def hear(caller, message):
    return [3, caller, len(message)] + list(message)


def known(caller, i):
    return [4, caller, i]


def open_ones(caller):
    return [5, caller]


def said(caller, i):
    return [6, caller, i]


def would(caller, message):
    return [7, caller, len(message)] + list(message)


def state(caller):
    return [8, caller]


def answer_to(me, all_there, bits=0):
    """The message that answers the caller whose number is me."""
    return [2, me, all_there, bits, 0, 0]


def flat(calls):
    """The calls one behind another in one list."""
    return [number for call in calls for number in call]


def split(given):
    """The answers one by one, out of the list that's given back."""
    found = []
    at = 0
    while at < len(given):
        count = given[at]
        found.append(given[at + 1:at + 1 + count])
        at += 1 + count
    return found


def ask(calls):
    """The answer to each of the calls."""
    return split(answers(flat(calls)))


def last(calls):
    """The answer to the last of the calls."""
    return ask(calls)[-1]


def many(count, caller=0):
    """So many calls that differ from one another; the first eight can be called at once."""
    return [say(caller, 1 + i % 9, 100 + i, 200 + i) for i in range(count)]


def heard_as_called(count, caller=0, me=0):
    """So many calls, each known to be heard before the next is called."""
    calls = []
    for i in range(count):
        calls += [say(caller, 1 + i % 9, 100 + i, 200 + i), hear(caller, answer_to(me, i + 1))]
    return calls


def probe(caller):
    """Calls whose answers show all that a caller keeps: first what only looks, then what changes."""
    calls = [state(caller), open_ones(caller)]
    for i in range(31):
        calls += [known(caller, i), said(caller, i)]
    for me in range(4):
        calls += [would(caller, answer_to(me, count)) for count in range(31)]
    calls += [tell(caller)] * 9 + [state(caller)]
    return calls + [say(caller, 9, 7, 8), tell(caller), open_ones(caller), state(caller)]


def check_refused(test, before, call, refusal, probed=(0,)):
    """After the calls before, the call is answered with the refusal alone, and leaves all as it was."""
    rest = [one for caller in probed for one in probe(caller)]
    with_call = ask(before + [call] + rest)
    without_call = ask(before + rest)
    test.assertEqual(with_call[len(before)], [refusal])
    test.assertEqual(with_call[:len(before)], without_call[:len(before)])
    test.assertEqual(with_call[len(before) + 1:], without_call[len(before):])
