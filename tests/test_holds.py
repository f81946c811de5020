"""'What holds': each of its points, over many lists that are drawn with fixed seeds."""

import unittest

from tests.helper import ask, find, gaps, hear, kept_of, open_ones, shore_answer, shore_hear, shore_state, state, tell
from tests.model import SHORE, drawn_list
from tests.sea import Sea, shore_after

ROUNDS = 20


def seas(count):
    """So many seas, each after some rounds."""
    for seed in range(count):
        sea = Sea(seed)
        for _ in range(1 + seed % ROUNDS):
            sea.round()
        yield seed, sea


class OrderTest(unittest.TestCase):
    def test_whatever_the_order(self):
        for seed, sea in seas(60):
            heard = sea.heard_by_shore()
            each = [message for at, message in enumerate(heard) if message not in heard[:at]]
            once = shore_after(each)
            self.assertEqual(shore_after(heard), once, f"seed {seed}")
            self.assertEqual(shore_after(each[::-1]), once, f"seed {seed}")
            for _ in range(3):
                mixed = each + sea.draw.choices(each, k=min(len(each), 20))
                sea.draw.shuffle(mixed)
                self.assertEqual(shore_after(mixed), once, f"seed {seed}")

    def test_also_of_calls_that_no_caller_could_have_told_by_then(self):
        for seed in range(30):
            models = drawn_list(seed, 400)[2]
            each = models[SHORE].messages
            once = shore_after(each)
            for mixed in (each[::-1], sorted(each), each + each, [one for one in each for _ in range(2)]):
                self.assertEqual(shore_after(mixed), once, f"seed {seed}")


class KeptTest(unittest.TestCase):
    def test_each_once(self):
        for seed, sea in seas(60):
            keys = [key for key, _ in sea.kept()]
            self.assertEqual(len(set(keys)), len(keys), f"seed {seed}")
            heard = sea.heard_by_shore()
            self.assertEqual(sea.would([shore_state()])[0], [len(keys), len(heard) - len(keys)], f"seed {seed}")
            first = {}
            for message in heard:
                first.setdefault(tuple(message[1:3]), message[3:])
            self.assertEqual(sea.kept(), list(first.items()), f"seed {seed}")

    def test_always_told(self):
        for seed, sea in seas(60):
            keys = {key for key, _ in sea.kept()}
            for k in range(4):
                self.check_told(sea, k, {number for whose, number in keys if whose == k}, f"seed {seed}")

    def check_told(self, sea, k, has, seed):
        answer, bits, missing = sea.would([shore_answer(k), kept_of(k), gaps(k)])
        self.assertEqual(answer[:4] + answer[5:], [answer[0], 2, k, answer[0], 0, 0], seed)
        gap = answer[0]
        for number in range(39):
            told = number < gap or (number > gap and answer[4] >> (number - gap - 1) & 1 == 1)
            if number <= gap + 8:
                self.assertEqual(told, number in has, seed)
            else:
                self.assertFalse(told, seed)
        self.assertEqual(bits, [len(has), sum(1 << number for number in has)], seed)
        lacks = set(range(max(has, default=0))) - has
        self.assertEqual(missing, [len(lacks), sum(1 << number for number in lacks)], seed)


class NoneForgottenTest(unittest.TestCase):
    def test_what_is_known_stays_known(self):
        for seed in range(25):
            sea = Sea(seed)
            before = [set(), set(), set()]
            for _ in range(ROUNDS):
                sea.round()
                after = [sea.called_and_known(caller)[1] for caller in range(3)]
                for caller in range(3):
                    self.assertLessEqual(before[caller], after[caller], f"seed {seed}")
                before = after

    def test_what_is_open_is_told_within_as_many_tellings(self):
        for seed, sea in seas(60):
            for caller in range(3):
                self.check_told_again(sea.calls, caller, f"seed {seed}")

    def test_also_where_answers_are_heard_that_no_shore_gave(self):
        for seed in range(150):
            calls, _, models = drawn_list(seed, 20 + 2 * seed)
            for caller in models:
                if caller != SHORE:
                    self.check_told_again(calls, caller, f"seed {seed}")

    def check_told_again(self, calls, caller, seed):
        count, bits = ask(calls + [open_ones(caller)])[-1][:2]
        told = ask(calls + [tell(caller)] * count)[len(calls):]
        self.assertEqual(sum(1 << number for number in {answer[0] for answer in told}), bits, seed)

    def test_also_known_stays_known_where_answers_are_heard_that_no_shore_gave(self):
        for seed in range(60):
            calls, expected, _ = drawn_list(seed, 200)
            looked = ask([one for call in calls for one in self.with_looks(call)])
            self.check_stays(calls, expected, looked)

    def with_looks(self, call):
        """The call, and behind one of a caller that's not a start what's open then and how many were called."""
        return [call, open_ones(call[1]), state(call[1])] if 0 < call[0] < 9 else [call]

    def check_stays(self, calls, expected, looked):
        at, kept = 0, {}
        for call, answer in zip(calls, expected):
            self.assertEqual(looked[at], answer)
            at += 1
            if call[0] == 0 and answer == [0]:
                kept[call[1]] = 0
            if 0 < call[0] < 9:
                heard = ((1 << looked[at + 1][0]) - 1) & ~looked[at][1]
                at += 2
                self.assertEqual(kept[call[1]] & ~heard, 0)
                kept[call[1]] = heard


class KnownTest(unittest.TestCase):
    def test_known_just_as_it_was(self):
        for seed, sea in seas(100):
            self.check_known(sea, f"seed {seed}")

    def check_known(self, sea, seed):
        called = {}
        for caller, me in enumerate(sea.numbers):
            calls, heard = sea.called_and_known(caller)
            called.update({(me, number): call for number, call in enumerate(calls)})
            found = sea.would([find(me, number) for number in heard])
            self.assertEqual(found, [calls[number] for number in heard], seed)
        for key, call in sea.kept():
            self.assertEqual(call, called.get(key), seed)

    def test_the_radio_loses_doubles_and_brings_late(self):
        lost = doubled = known_behind_a_gap = 0
        for _, sea in seas(60):
            state_now = sea.would([shore_state()] + [gaps(k) for k in range(4)])
            doubled += state_now[0][1]
            lost += sum(answer[0] for answer in state_now[1:])
            for caller in range(3):
                heard = sea.called_and_known(caller)[1]
                known_behind_a_gap += len(heard - set(range(len(heard))))
        self.assertGreater(min(lost, doubled, known_behind_a_gap), 20)


class OneRoundTest(unittest.TestCase):
    def test_one_round_is_enough(self):
        for seed, sea in seas(60):
            for caller in sea.draw.sample(range(3), 3):
                self.check_round(sea, caller, f"seed {seed}")
            self.assertEqual([sea.still_open(caller) for caller in range(3)], [[0, 0]] * 3, f"seed {seed}")

    def check_round(self, sea, caller, seed):
        count = sea.still_open(caller)[0]
        told = [answer[1:] for answer in sea.do([tell(caller)] * count)]
        sea.draw.shuffle(told)
        for answer in sea.do([shore_hear(message) for message in told]):
            self.assertGreaterEqual(answer[0], 0, seed)
        answer = sea.do([shore_answer(sea.numbers[caller])])[0][1:]
        self.assertEqual(sea.do([hear(caller, answer)]), [[count, 0]], seed)

    def test_round_by_round_to_the_last_of_thirty(self):
        for seed in range(20):
            sea = Sea(seed)
            for _ in range(4):
                for caller in range(3):
                    sea.do([sea.drawn_say(caller) for _ in range(8)])
                    self.check_round(sea, caller, f"seed {seed}")
            for caller, me in enumerate(sea.numbers):
                answered = sea.would([state(caller), shore_answer(me), open_ones(caller)])
                self.assertEqual([answer[0] for answer in answered], [30, 30, 0], f"seed {seed}")
            self.assertEqual(sea.would([shore_state()]), [[90, 0]], f"seed {seed}")


if __name__ == "__main__":
    unittest.main()
