"""The one list of calls and the one list of answers."""

import ast
import contextlib
import io
import pathlib
import sys
import unittest

import copyladder
from copyladder.desk import answers
from helper import BEGINS, apparatus, ask, beside, chosen, copies, copy, costs

SEVERAL = [
    0,
    1, 3, 1, 2, 3,
    1, 2, 1, 3,
    3, 0, 1,
    2, 100, 1, 1,
    2, 0, 1, 1,
    1, 1, 0,
    4, 0,
    5, 0, 1, 1,
    5, 0, 0,
    0,
    4, 0,
    1, 0,
    3, 0, 0,
]
SEVERAL_ANSWERS = [
    1, 0,
    1, 0,
    1, 1,
    11, 2, 3, 0, 1, 1, 1, 2, 0, 0, 3, 3,
    1, 0,
    1, -1,
    1, -1,
    11, 1, 1, 1, 2, 1, 2, 1, 0, 0, 1, 1,
    3, 2, 1, 3,
    1, -1,
    1, 0,
    1, -6,
    1, 0,
    2, 0, 0,
]


class OneList(unittest.TestCase):
    def test_number_by_number(self):
        self.assertEqual(answers(SEVERAL), SEVERAL_ANSWERS)

    def test_one_call(self):
        self.assertEqual(answers([0]), [1, 0])
        self.assertEqual(answers([1, 0]), [1, 0])
        self.assertEqual(answers([4, 0]), [1, -6])

    def test_numbers_in_a_row_are_no_calls(self):
        self.assertEqual(answers([1, 4, 1, 4, 3, 5, 1, 1, 2]), [1, 0, 1, 1])

    def test_a_refused_row_is_passed_over_whole(self):
        self.assertEqual(answers([1, 3, 0, 0, 0, 5, 7, 2, 1, 1, 1, 1, 5]), [1, -1, 1, -6, 1, 0])
        self.assertEqual(answers([1, 100] + [0] * 100 + [1, 1, 5]), [1, -1, 1, 0])

    def test_sixty_calls(self):
        eight = copies(*[[(k * v) % 7 + 1 for k in range(60)] for v in range(1, 9)])
        told = ask(*eight, *[apparatus(k % 8) for k in range(52)])
        self.assertEqual(told[8:16], told[16:24])

    def test_gives_back_a_list_of_whole_numbers(self):
        told = answers(SEVERAL)
        self.assertIs(type(told), list)
        self.assertEqual({type(number) for number in told}, {int})


class NothingKept(unittest.TestCase):
    LISTS = (SEVERAL, copy(1, 2), [2, 1, 1, 1], [1, 61] + [1] * 61,
             [n for call in copies([1, 2], [3]) + [beside(0, 1), apparatus(1), chosen(1, 1)] for n in call])

    def test_the_list_is_not_changed(self):
        for calls in self.LISTS:
            before = list(calls)
            answers(calls)
            self.assertEqual(calls, before)

    def test_not_for_a_while_either(self):
        class Fixed(list):
            """A list that tells if something would change it."""

        def refuse(*told):
            raise AssertionError("the list handed in was changed")

        for name in ("append", "extend", "insert", "pop", "remove", "clear", "reverse", "sort",
                     "__setitem__", "__delitem__", "__iadd__", "__imul__"):
            setattr(Fixed, name, refuse)
        self.assertEqual(answers(Fixed(SEVERAL)), SEVERAL_ANSWERS)

    def test_a_second_time_is_like_the_first(self):
        for calls in self.LISTS:
            first = answers(calls)
            self.assertEqual(answers(calls), first)
            self.assertIsNot(answers(calls), first)

    def test_copies_and_costs_of_another_list_are_gone(self):
        ask(costs(1, 1, 1), *copies([1], [2]))
        self.assertEqual(ask(beside(0, 0), *copies([1], [2]), beside(0, 1)), [[-6], [0], [1], [2, 1, 0, 1, 2]])

    def test_what_is_given_back_may_be_changed(self):
        calls = self.LISTS[-1]
        first = answers(calls)
        kept = list(first)
        first.clear()
        self.assertEqual(answers(calls), kept)

    def test_prints_nothing(self):
        out, err = io.StringIO(), io.StringIO()
        with contextlib.redirect_stdout(out), contextlib.redirect_stderr(err):
            answers(SEVERAL)
        self.assertEqual((out.getvalue(), err.getvalue()), ("", ""))


    def test_imports_and_reads_nothing(self):
        for file in sorted(pathlib.Path(copyladder.__file__).parent.glob("*.py")):
            for node in ast.walk(ast.parse(file.read_text())):
                self.assertNotIsInstance(node, ast.Import, file)
                if isinstance(node, ast.ImportFrom):
                    self.assertTrue(node.module.startswith("copyladder."), (file, node.module))
                if isinstance(node, ast.Name):
                    self.assertNotIn(node.id, ("print", "input", "open"), file)


class LongInputs(unittest.TestCase):
    def test_within_few_calls_of_one_another(self):
        # What is as long as its input goes by loops: the longest copies need no deeper calls than the shortest.
        self.assertLessEqual(self.depth(60, 8), self.depth(1, 2))

    def depth(self, words, many):
        calls = [n for call in copies(*[[k % (v + 1) + 1 for k in range(words)] for v in range(many)]) for n in call]
        calls += beside(0, 1) + apparatus(0)
        deepest = [0]
        level = [0]

        def watch(frame, event, told):
            level[0] += {"call": 1, "return": -1}.get(event, 0)
            deepest[0] = max(deepest[0], level[0])

        sys.setprofile(watch)
        try:
            answers(calls)
        finally:
            sys.setprofile(None)
        return deepest[0]


class Begins(unittest.TestCase):
    def test_in_the_middle_of_a_list(self):
        half = copies([1, 2], [2, 3]) + [costs(5, 6, 7), beside(0, 1), apparatus(1)]
        told = ask(*half, BEGINS, *half)
        self.assertEqual(told[:5], told[6:])
        self.assertEqual(told[5], [0])


if __name__ == "__main__":
    unittest.main()
