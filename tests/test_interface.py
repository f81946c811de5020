"""calledshores.radio.answers: the form of what is handed in and given back, and what stands below it."""

import contextlib
import inspect
import io
import sys
import unittest

from calledshores.radio import answers
from tests.helper import (
    GREATEST, answer_to, call_of, find, flat, gaps, get, hear, kept_of, known, many, open_ones, said, say, shore_answer,
    shore_hear, shore_hears, shore_start, shore_state, start, state, tell, would,
)

EACH_CALLER_CALL = [
    start(0, 4), start(0, 3), say(0, 0), say(0, 7, 8, 9), say(0, 2, 3, 4), tell(0), hear(0, answer_to(3, 1)),
    hear(0, answer_to(3, 3)), known(0, 0), known(0, 2), open_ones(0), said(0, 1), said(0, 2),
    would(0, answer_to(3, 2)), would(0, answer_to(3, 3)), state(0), hear(0, answer_to(3, 2)), tell(0),
]
EACH_SHORE_CALL = [
    shore_start(), shore_hear(call_of(3, 1, 7, 8, 9)), shore_hear(call_of(3, 1, 7, 8, 9)),
    shore_hear(call_of(3, 1, 7, 8, 8)), shore_hear(call_of(4, 1)), shore_answer(3), shore_answer(4), get(0), get(1),
    find(3, 1), find(4, 1), find(3, 0), kept_of(3), kept_of(4), gaps(3), gaps(4), shore_state(),
]
EACH_CALL = EACH_CALLER_CALL + EACH_SHORE_CALL


class FixedList(list):
    """A list that can't be changed, not for a while either."""

    def refuse(self, *given, **named):
        raise AssertionError("the list that was handed in was changed")

    append = extend = insert = pop = remove = clear = sort = reverse = refuse
    __setitem__ = __delitem__ = __iadd__ = __imul__ = refuse


class AnswersTest(unittest.TestCase):
    def test_numbers_by_which_calls_are_handed_in_and_answered(self):
        calls = [
            0, 1, 2, 1, 1, 9, 5, 6, 1, 1, 0, 5, 6, 2, 1, 3, 1, 6, 2, 2, 1, 0, 0, 0, 4, 1, 0, 5, 1, 6, 1, 0,
            7, 1, 6, 2, 2, 2, 0, 0, 0, 8, 1,
        ]
        self.assertEqual(answers(calls), [
            1, 0, 1, 0, 1, -22, 7, 0, 1, 2, 0, 9, 5, 6, 2, 1, 0, 1, 1, 3, 0, 0, 1, 3, 9, 5, 6,
            1, -71, 3, 1, 2, 1,
        ])

    def test_numbers_by_which_calls_of_the_shore_are_handed_in_and_answered(self):
        calls = [
            9, 0, 10, 0, 6, 1, 2, 1, 9, 5, 6, 10, 0, 6, 1, 2, 1, 9, 5, 6, 11, 0, 2, 12, 0, 0, 13, 0, 2, 1, 14, 0, 2,
            15, 0, 2, 16, 0, 9, 0,
        ]
        self.assertEqual(answers(calls), [
            1, 0, 2, 1, 1, 2, 0, 1, 7, 0, 2, 2, 0, 1, 0, 0, 5, 9, 2, 1, 5, 6, 3, 9, 5, 6, 2, 1, 2,
            2, 1, 1, 2, 1, 1, 1, 0,
        ])

    def test_how_many_numbers_each_call_answers(self):
        self.assertEqual(answers(flat(EACH_CALL)), [
            1, -22, 1, 0, 1, -22, 1, 0, 1, 1, 7, 0, 1, 3, 0, 7, 8, 9, 2, 1, 1,
            1, -71, 1, 1, 1, -2, 3, 1, 2, 1, 3, 2, 3, 4, 1, -2,
            1, 1, 1, -71, 3, 2, 3, 1, 2, 1, 0, 1, -6,
            1, 0, 2, 1, 1, 2, 0, 1, 1, -74, 1, -71, 7, 0, 2, 3, 0, 1, 0, 0, 1, -2, 5, 7, 3, 1, 8, 9, 1, -2,
            3, 7, 8, 9, 1, -2, 1, -6, 2, 1, 2, 1, -2, 2, 1, 1, 1, -2, 2, 1, 1,
        ])

    def test_plain_list_of_whole_numbers(self):
        given = answers(flat(EACH_CALL))
        self.assertIs(type(given), list)
        self.assertEqual({type(number) for number in given}, {int})

    def test_takes_calls_alone(self):
        self.assertEqual(str(inspect.signature(answers)), "(calls)")

    def test_one_call(self):
        self.assertEqual(answers([0, 2, 3]), [1, 0])
        self.assertEqual(answers([0, 2, GREATEST]), [1, -22])
        self.assertEqual(answers([9, 0]), [1, 0])

    def test_what_is_handed_in_is_not_changed(self):
        calls = flat(EACH_CALL)
        copy = list(calls)
        answers(calls)
        self.assertEqual(calls, copy)
        self.assertEqual(answers(FixedList(calls)), answers(calls))

    def test_nothing_is_kept_from_one_time_to_the_next(self):
        calls = flat(EACH_CALL)
        first = answers(calls)
        answers(flat([start(0, 1), start(1, 1), start(2, 1)] + many(5) + [shore_start()] + shore_hears(3, [0, 1, 1])))
        self.assertEqual(answers(calls), first)

    def test_what_is_given_back_is_new(self):
        calls = flat(EACH_CALL)
        first = answers(calls)
        kept = list(first)
        first.clear()
        self.assertEqual(answers(calls), kept)

    def test_prints_reads_and_imports_nothing(self):
        loaded = set(sys.modules)
        out, err = io.StringIO(), io.StringIO()
        with contextlib.redirect_stdout(out), contextlib.redirect_stderr(err):
            answers(flat(EACH_CALL))
        self.assertEqual((out.getvalue(), err.getvalue()), ("", ""))
        self.assertEqual(set(sys.modules), loaded)

    def test_a_thousand_calls(self):
        given = answers(flat([start(0, 1), say(0, 2, 3, 4)] + [tell(0)] * 997 + [state(0)]))
        self.assertEqual(given, [1, 0, 1, 0] + [7, 0, 1, 1, 0, 2, 3, 4] * 997 + [3, 1, 1, 997])

    def test_a_thousand_of_the_longest_calls(self):
        given = answers(flat([start(0, 1)] + [hear(0, answer_to(1, 0))] * 999))
        self.assertEqual(given, [1, 0] + [2, 0, 0] * 999)

    def test_a_thousand_calls_of_the_shore(self):
        given = answers(flat([shore_start()] + [shore_hear(call_of(1, 0, 2, 3, 4))] * 998 + [shore_state()]))
        self.assertEqual(given, [1, 0, 2, 1, 1] + [2, 0, 1] * 997 + [2, 1, 997])

    def test_a_thousand_calls_of_all_four(self):
        turn = [tell(0), shore_hear(call_of(3, 0, 2, 3, 4)), shore_answer(3), shore_state()]
        given = answers(flat([start(0, 3), say(0, 2, 3, 4), shore_start(), start(1, 0)] + turn * 249))
        expected = [1, 0, 1, 0, 1, 0, 1, 0]
        for count in range(249):
            expected += [7, 0, 1, 3, 0, 2, 3, 4, 2, int(count == 0), 1, 7, 1, 2, 3, 1, 0, 0, 0, 2, 1, count]
        self.assertEqual(given, expected)

    def test_starts_again_and_again(self):
        given = answers(flat([start(0, i % 5) for i in range(1000)]))
        self.assertEqual(given, [1, 0, 1, 0, 1, 0, 1, 0, 1, -22] * 200)
        self.assertEqual(answers([9, 0] * 1000), [1, 0] * 1000)


if __name__ == "__main__":
    unittest.main()
