"""calledshores.radio.answers: the form of what is handed in and given back, and what stands below it."""

import contextlib
import inspect
import io
import sys
import unittest

from calledshores.radio import answers
from tests.helper import GREATEST, answer_to, flat, hear, known, many, open_ones, said, say, start, state, tell, would

EACH_CALL = [
    start(0, 4), start(0, 3), say(0, 0), say(0, 7, 8, 9), say(0, 2, 3, 4), tell(0), hear(0, answer_to(3, 1)),
    hear(0, answer_to(3, 3)), known(0, 0), known(0, 2), open_ones(0), said(0, 1), said(0, 2),
    would(0, answer_to(3, 2)), would(0, answer_to(3, 3)), state(0), hear(0, answer_to(3, 2)), tell(0),
]


class FixedList(list):
    """A list that can't be changed, not for a while either."""

    def refuse(self, *given, **named):
        raise AssertionError("the list that was handed in was changed")

    append = extend = insert = pop = remove = clear = sort = reverse = refuse
    __setitem__ = __delitem__ = __iadd__ = __imul__ = refuse


class AnswersTest(unittest.TestCase):
    def test_numbers_by_which_calls_are_handed_in_and_answered(self):
        calls = [
            0, 1, 2, 1, 1, 9, 5, 6, 1, 1, 0, 5, 6, 2, 1, 3, 1, 6, 2, 2, 1, 0, 0, 0, 4, 1, 0, 5, 1, 6, 1, 0,
            7, 1, 6, 2, 2, 2, 0, 0, 0, 8, 1,
        ]
        self.assertEqual(answers(calls), [
            1, 0, 1, 0, 1, -22, 7, 0, 1, 2, 0, 9, 5, 6, 2, 1, 0, 1, 1, 3, 0, 0, 1, 3, 9, 5, 6,
            1, -71, 3, 1, 2, 1,
        ])

    def test_how_many_numbers_each_call_answers(self):
        self.assertEqual(answers(flat(EACH_CALL)), [
            1, -22, 1, 0, 1, -22, 1, 0, 1, 1, 7, 0, 1, 3, 0, 7, 8, 9, 2, 1, 1,
            1, -71, 1, 1, 1, -2, 3, 1, 2, 1, 3, 2, 3, 4, 1, -2,
            1, 1, 1, -71, 3, 2, 3, 1, 2, 1, 0, 1, -6,
        ])

    def test_plain_list_of_whole_numbers(self):
        given = answers(flat(EACH_CALL))
        self.assertIs(type(given), list)
        self.assertEqual({type(number) for number in given}, {int})

    def test_takes_calls_alone(self):
        self.assertEqual(str(inspect.signature(answers)), "(calls)")

    def test_one_call(self):
        self.assertEqual(answers([0, 2, 3]), [1, 0])
        self.assertEqual(answers([0, 2, GREATEST]), [1, -22])

    def test_what_is_handed_in_is_not_changed(self):
        calls = flat(EACH_CALL)
        copy = list(calls)
        answers(calls)
        self.assertEqual(calls, copy)
        self.assertEqual(answers(FixedList(calls)), answers(calls))

    def test_nothing_is_kept_from_one_time_to_the_next(self):
        calls = flat(EACH_CALL)
        first = answers(calls)
        answers(flat([start(0, 1), start(1, 1), start(2, 1)] + many(5)))
        self.assertEqual(answers(calls), first)

    def test_what_is_given_back_is_new(self):
        calls = flat(EACH_CALL)
        first = answers(calls)
        kept = list(first)
        first.clear()
        self.assertEqual(answers(calls), kept)

    def test_prints_reads_and_imports_nothing(self):
        loaded = set(sys.modules)
        out, err = io.StringIO(), io.StringIO()
        with contextlib.redirect_stdout(out), contextlib.redirect_stderr(err):
            answers(flat(EACH_CALL))
        self.assertEqual((out.getvalue(), err.getvalue()), ("", ""))
        self.assertEqual(set(sys.modules), loaded)

    def test_a_thousand_calls(self):
        given = answers(flat([start(0, 1), say(0, 2, 3, 4)] + [tell(0)] * 997 + [state(0)]))
        self.assertEqual(given, [1, 0, 1, 0] + [7, 0, 1, 1, 0, 2, 3, 4] * 997 + [3, 1, 1, 997])

    def test_a_thousand_of_the_longest_calls(self):
        given = answers(flat([start(0, 1)] + [hear(0, answer_to(1, 0))] * 999))
        self.assertEqual(given, [1, 0] + [2, 0, 0] * 999)

    def test_starts_again_and_again(self):
        given = answers(flat([start(0, i % 5) for i in range(1000)]))
        self.assertEqual(given, [1, 0, 1, 0, 1, 0, 1, 0, 1, -22] * 200)


if __name__ == "__main__":
    unittest.main()
