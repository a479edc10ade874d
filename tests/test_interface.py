import ast
import contextlib
import io
import unittest
from pathlib import Path

import untiedrings
from untiedrings.parts import answers
from tests.helper import (GREATEST, all_out, all_parts, ask, begin, cancel, hand, hold, holding, inring, lost, part,
                          plain, real, realstrewn, sell, state, strewn, wouldhand)

LINE = (begin(1, 2) + hold(0, 0, 1, 2) + hold(2, 0, 1, 2) + hold(1, 1, 1, 2) + sell(0, 1, 0, 1, 4) + cancel(0)
        + strewn(1) + realstrewn(0) + lost(0) + inring(1) + holding() + plain() + wouldhand(0, 1) + state()
        + hand(0) + all_out([0, 1]) + part(0, 0) + real(0, 1) + cancel(2) + wouldhand(2, 0))
TOLD = [1, 0, 3, 0, 0, 1, 3, 0, 0, 1, 3, 0, 0, 1, 5, 0, 1, 4, 1, 4, 3, 0, 1, 4,
        3, 0, 1, 2, 3, 0, 1, 2, 3, 0, 0, 1, 1, 1, 3, 2, 0, 1, 1, 0, 7, 3, 1, 6, 0, 1, 1, 3, 2, 1, 2,
        1, 1, 1, 0, 3, 0, 1, 2, 3, 0, 1, 4, 1, -2, 1, -2]
# Calls that change nothing, where they answer and where they are refused.
QUESTIONS = [lost(0), strewn(0), realstrewn(0), inring(0), holding(), plain(), wouldhand(0, 1), wouldhand(1, 1),
             state(), part(3, 2), real(1, 2), lost(3), strewn(3), realstrewn(GREATEST), inring(3), wouldhand(3, 0),
             wouldhand(0, 3), wouldhand(2, 0)]


class Unchanging(list):
    """A list that fails as soon as somebody changes it, even if only for a while."""

    def fail(self, *given):
        raise AssertionError("what is handed in is changed")

    __setitem__ = __delitem__ = __iadd__ = __imul__ = fail
    append = clear = extend = insert = pop = remove = reverse = sort = fail


class Interface(unittest.TestCase):
    def test_the_answers_stand_number_by_number(self):
        self.assertEqual(answers(LINE), TOLD)

    def test_a_list_without_calls(self):
        self.assertEqual(answers([]), [])

    def test_one_call(self):
        self.assertEqual(answers([0, 4, 5]), [1, 0])
        self.assertEqual(answers([5, 0]), [1, -11])
        self.assertEqual(answers([5, 2, 0, 0]), [1, -11])
        self.assertEqual(answers([7, 0, 0]), [1, -11])

    def test_a_list_and_whole_numbers_are_given_back(self):
        told = answers(LINE)
        self.assertIs(type(told), list)
        self.assertEqual({type(number) for number in told}, {int})

    def test_forty_calls(self):
        calls = [begin(1, 1)] + [hold(0, 0, count, 97) for count in range(1, 40)]
        self.assertEqual(ask(calls), [[0], [0, 0, 1]] + [[0, count, 97] for count in range(1, 39)])
        self.assertEqual(answers([0, 1, 1] * 40), [1, 0] * 40)

    def test_the_longest_list(self):
        longest = all_out([GREATEST] * 255) * 40
        self.assertEqual(len(longest), 10280)
        self.assertEqual(answers(longest), [1, -11] * 40)
        self.assertEqual(answers(begin(4, 5) + all_out([0] * 255) * 39), [1, 0] + [1, -22] * 39)

    def test_how_many_numbers_are_answered(self):
        calls = [begin(1, 1), hold(0, 0, 1, 2), sell(0, 1, 0, 1, 4), cancel(0), hand(0), all_out([0]), part(0, 0),
                 real(0, 0), lost(0), strewn(0), realstrewn(0), inring(0), holding(), plain(), wouldhand(0, 0), state()]
        self.assertEqual([len(answer) for answer in ask(calls)], [1, 3, 5, 3, 1, 1, 3, 3, 3, 3, 3, 1, 1, 1, 5, 2])
        self.assertEqual(len(ask([begin(4, 5), wouldhand(0, 0)])[-1]), 19)

    def test_no_number_but_a_refusal_is_below_0(self):
        for answer in ask([begin(2, 2), hold(0, 0, 1, 2), sell(0, 1, 0, 1, 4), cancel(1), hand(5), cancel(0),
                           real(0, 0), part(9, 0), all_out([9])] + QUESTIONS):
            self.assertEqual(len(answer) == 1 and answer[0] < 0, min(answer) < 0)


class NothingIsKept(unittest.TestCase):
    def test_what_is_handed_in_is_not_changed(self):
        calls = list(LINE)
        answers(calls)
        self.assertEqual(calls, LINE)
        self.assertEqual(answers(Unchanging(LINE)), TOLD)
        self.assertEqual(answers(Unchanging(all_out([0] * 255))), [1, -11])
        asked = [0, 2, 3] + [number for question in QUESTIONS for number in question]
        self.assertEqual(answers(Unchanging(asked)), answers(list(asked)))

    def test_a_call_that_only_asks_changes_nothing(self):
        calls = [begin(2, 3), hold(0, 0, 1, 6), hold(3, 0, 1, 2), hold(2, 0, 1, 4), hold(2, 1, 1, 3), hold(1, 1, 1, 3),
                 hold(4, 2, 1, 1), hold(4, 1, 1, 4)]
        parts = all_parts(calls, 2, 3)
        told = ask(calls + QUESTIONS)[len(calls):]
        for question in QUESTIONS:
            self.assertEqual(all_parts(calls + [question], 2, 3), parts, question)
            self.assertEqual(ask(calls + [question] + QUESTIONS)[len(calls) + 1:], told, question)
        self.assertEqual(told[-7:], [[-2]] * 6 + [[-33]])

    def test_the_same_list_answers_the_same_again(self):
        others = ([], part(0, 0), begin(4, 5) + hold(0, 0, 1, 1) + hand(0), begin(0, 0), begin(1, 2) + hold(1, 0, 1, 1))
        for other in others:
            self.assertEqual(answers(LINE), TOLD)
            answers(other)
        self.assertEqual(answers(LINE), TOLD)

    def test_an_object_is_new_at_a_lists_beginning(self):
        answers(begin(1, 1) + hold(0, 0, 1, 1))
        self.assertEqual(answers(part(0, 0)), [1, -11])
        self.assertEqual(answers(begin(1, 1) + part(0, 0)), [1, 0, 3, 0, 0, 1])

    def test_what_is_given_back_is_ones_own(self):
        told = answers(LINE)
        told[:] = [7] * len(told)
        self.assertEqual(answers(LINE), TOLD)


class NothingElseIsDone(unittest.TestCase):
    def test_nothing_is_printed(self):
        out, errors = io.StringIO(), io.StringIO()
        with contextlib.redirect_stdout(out), contextlib.redirect_stderr(errors):
            answers(LINE)
        self.assertEqual((out.getvalue(), errors.getvalue()), ("", ""))

    def test_the_package_imports_prints_and_reads_nothing(self):
        for path in sorted(Path(untiedrings.__file__).parent.glob("*.py")):
            for node in ast.walk(ast.parse(path.read_text())):
                self.assertNotIsInstance(node, (ast.Import, ast.ImportFrom), path)
                if isinstance(node, ast.Name):
                    self.assertNotIn(node.id, ("print", "open", "input", "eval", "exec", "__import__"), path)


if __name__ == "__main__":
    unittest.main()
