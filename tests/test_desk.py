"""The one list of calls and the one list of answers."""

import ast
import contextlib
import io
import pathlib
import sys
import unittest

import copyladder
from copyladder.desk import answers
from helper import (BEGINS, GREATEST, STORIES, agree, apparatus, ask, beside, chosen, copies, copy, costs, most, own,
                    shared)

SEVERAL = [
    0,
    1, 3, 1, 2, 3,
    1, 2, 1, 3,
    3, 0, 1,
    2, 100, 1, 1,
    2, 0, 1, 1,
    1, 1, 0,
    4, 0,
    5, 0, 1, 1,
    5, 0, 0,
    0,
    4, 0,
    1, 0,
    3, 0, 0,
]
SEVERAL_ANSWERS = [
    1, 0,
    1, 0,
    1, 1,
    11, 2, 3, 0, 1, 1, 1, 2, 0, 0, 3, 3,
    1, 0,
    1, -1,
    1, -1,
    11, 1, 1, 1, 2, 1, 2, 1, 0, 0, 1, 1,
    3, 2, 1, 3,
    1, -1,
    1, 0,
    1, -6,
    1, 0,
    2, 0, 0,
]

# All eleven sorts, each refused where it can be, with begins in the middle and three of stories.
ALL_SORTS = [
    9,
    10, 0,
    1, 2, 7, 8,
    1, 2, 7, 9,
    1, 3, 7, 9, 6,
    2, 3, 1, 2,
    3, 0, 1,
    4, 0,
    5, 0, 1, 2,
    6, 0, 2,
    6, 2, 0,
    6, 0, 4294967295,
    7, 2,
    7, 3,
    8, 2,
    8, 4294967295,
    9,
    10, 0,
    10, 2,
    0,
    6, 0, 0,
    1, 0,
    8, 0,
    9,
    10, 0,
    7, 0,
    6, 0, 0,
]
ALL_SORTS_ANSWERS = [
    1, -6,
    1, -6,
    1, 0,
    1, 1,
    1, 2,
    1, 0,
    8, 3, 2, 0, 7, 7, 0, 8, 9,
    17, 1, 1, 1, 3, 1, 8, 1, 0, 1, 9, 1, 1, 2, 9, 6, 1, 2,
    4, 3, 7, 9, 6,
    2, 1, 2,
    3, 2, 1, 1,
    1, -6,
    5, 2, 7, 9, 0, 1,
    1, -6,
    10, 2, 2, 1, 0, 1, 2, 1, 0, 1, 2,
    1, -6,
    5, 4, 1, 1, 2, 2,
    2, 0, 0,
    6, 1, 2, 0, 1, 1, 0,
    1, 0,
    1, -6,
    1, 0,
    2, 0, 0,
    3, 0, 1, 0,
    2, 0, 0,
    1, 0,
    1, 0,
]


class OneList(unittest.TestCase):
    def test_number_by_number(self):
        self.assertEqual(answers(SEVERAL), SEVERAL_ANSWERS)

    def test_all_eleven_sorts(self):
        self.assertEqual(answers(ALL_SORTS), ALL_SORTS_ANSWERS)

    def test_sixty_calls_of_all_sorts(self):
        five = copies(*[[(k * v) % 7 + 1 for k in range(60)] for v in range(1, 6)])
        asked = [beside(0, 1), apparatus(1), chosen(2), own(3, 4), most(4), agree(0), shared(1), STORIES]
        others = [call for call in asked if call != STORIES]
        told = ask(BEGINS, *five, costs(3, 2, 1), *asked * 3, *others * 4, *[costs(1, 2, 3)])
        self.assertEqual(len(told), 60)
        self.assertEqual(told[7:15], told[15:23])
        self.assertEqual(told[7:15], told[23:31])
        self.assertEqual(told[7:14] * 4, told[31:59])
        self.assertEqual(told[59], [0])

    def test_one_call(self):
        self.assertEqual(answers([0]), [1, 0])
        self.assertEqual(answers([1, 0]), [1, 0])
        for call in ([4, 0], [5, 0, 0], [6, 0, 0], [7, 0], [8, 0], [9], [10, 0]):
            self.assertEqual(answers(call), [1, -6], call)

    def test_numbers_in_a_row_are_no_calls(self):
        self.assertEqual(answers([1, 4, 1, 4, 3, 5, 1, 1, 2]), [1, 0, 1, 1])

    def test_a_refused_row_is_passed_over_whole(self):
        self.assertEqual(answers([1, 3, 0, 0, 0, 5, 7, 2, 1, 1, 1, 1, 5]), [1, -1, 1, -6, 1, 0])
        self.assertEqual(answers([1, 100] + [0] * 100 + [1, 1, 5]), [1, -1, 1, 0])

    def test_sixty_calls(self):
        eight = copies(*[[(k * v) % 7 + 1 for k in range(60)] for v in range(1, 9)])
        told = ask(*eight, *[apparatus(k % 8) for k in range(52)])
        self.assertEqual(told[8:16], told[16:24])

    def test_gives_back_a_list_of_whole_numbers(self):
        for calls in (SEVERAL, ALL_SORTS):
            told = answers(calls)
            self.assertIs(type(told), list)
            self.assertEqual({type(number) for number in told}, {int})


class NothingKept(unittest.TestCase):
    LISTS = (SEVERAL, ALL_SORTS, copy(1, 2), [2, 1, 1, 1], [1, 61] + [1] * 61,
             [n for call in copies([1, 2], [3]) + [beside(0, 1), apparatus(1), chosen(1, 1)] for n in call])

    def test_the_list_is_not_changed(self):
        for calls in self.LISTS:
            before = list(calls)
            answers(calls)
            self.assertEqual(calls, before)

    def test_not_for_a_while_either(self):
        class Fixed(list):
            """A list that tells if something would change it."""

        def refuse(*told):
            raise AssertionError("the list handed in was changed")

        for name in ("append", "extend", "insert", "pop", "remove", "clear", "reverse", "sort",
                     "__setitem__", "__delitem__", "__iadd__", "__imul__"):
            setattr(Fixed, name, refuse)
        self.assertEqual(answers(Fixed(SEVERAL)), SEVERAL_ANSWERS)
        self.assertEqual(answers(Fixed(ALL_SORTS)), ALL_SORTS_ANSWERS)

    def test_a_second_time_is_like_the_first(self):
        for calls in self.LISTS:
            first = answers(calls)
            self.assertEqual(answers(calls), first)
            self.assertIsNot(answers(calls), first)

    def test_copies_and_costs_of_another_list_are_gone(self):
        ask(costs(1, 1, 1), *copies([1], [2]))
        self.assertEqual(ask(beside(0, 0), *copies([1], [2]), beside(0, 1)), [[-6], [0], [1], [2, 1, 0, 1, 2]])

    def test_what_is_given_back_may_be_changed(self):
        calls = self.LISTS[-1]
        first = answers(calls)
        kept = list(first)
        first.clear()
        self.assertEqual(answers(calls), kept)

    def test_prints_nothing(self):
        out, err = io.StringIO(), io.StringIO()
        with contextlib.redirect_stdout(out), contextlib.redirect_stderr(err):
            answers(SEVERAL)
            answers(ALL_SORTS)
        self.assertEqual((out.getvalue(), err.getvalue()), ("", ""))

    def test_imports_and_reads_nothing(self):
        for file in sorted(pathlib.Path(copyladder.__file__).parent.glob("*.py")):
            for node in ast.walk(ast.parse(file.read_text())):
                self.assertNotIsInstance(node, ast.Import, file)
                if isinstance(node, ast.ImportFrom):
                    self.assertTrue(node.module.startswith("copyladder."), (file, node.module))
                if isinstance(node, ast.Name):
                    self.assertNotIn(node.id, ("print", "input", "open"), file)


class RefusalsChangeNothing(unittest.TestCase):
    def test_the_gathering_is_as_before(self):
        rows = copies([1, 2, 3], [1, 4, 3], [1, 4])
        asked = [beside(0, 2), apparatus(0), chosen(0, 0, 0), own(0, 1), most(0), agree(0), STORIES, shared(0)]
        refused = [copy(0), copy(*[1] * 61), costs(0, 1, 1), beside(0, 3), apparatus(3), chosen(3), chosen(0, 9, 9),
                   own(0, 3), own(3, 0), most(3), agree(GREATEST), shared(8)]
        told = ask(*rows, costs(3, 1, 2), *asked, *refused, *asked)
        self.assertEqual(told[4:12], told[-8:])
        self.assertEqual(told[12:-8], [[-1]] * 3 + [[-6]] * 3 + [[-1]] + [[-6]] * 5)


class LongInputs(unittest.TestCase):
    def test_within_few_calls_of_one_another(self):
        # What is as long as its input goes by loops: the longest copies need no deeper calls than the shortest.
        for many in (5, 8):
            self.assertLessEqual(self.depth(60, many), self.depth(2, 2))

    def depth(self, words, many):
        calls = [n for call in copies(*[[k % (v + 1) + 1 for k in range(words)] for v in range(many)]) for n in call]
        calls += beside(0, 1) + apparatus(0) + own(0, 1) + most(0) + agree(0) + STORIES + shared(0)
        deepest = [0]
        level = [0]

        def watch(frame, event, told):
            level[0] += {"call": 1, "return": -1}.get(event, 0)
            deepest[0] = max(deepest[0], level[0])

        sys.setprofile(watch)
        try:
            answers(calls)
        finally:
            sys.setprofile(None)
        return deepest[0]


class Begins(unittest.TestCase):
    def test_in_the_middle_of_a_list(self):
        half = copies([1, 2], [2, 3]) + [costs(5, 6, 7), beside(0, 1), apparatus(1)]
        told = ask(*half, BEGINS, *half)
        self.assertEqual(told[:5], told[6:])
        self.assertEqual(told[5], [0])


if __name__ == "__main__":
    unittest.main()
