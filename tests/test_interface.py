import ast
import contextlib
import inspect
import io
import pathlib
import unittest

import cabinwait
from cabinwait.station import answers
from helper import MOST, begins, come, ends, fewest, joined, row, times

PACKAGE = pathlib.Path(cabinwait.__file__).parent

MANY = joined([begins(4, 2, 1), come(1), come(3), row(2), come(21), begins(4, 2, 5), row(3), come(0), row(3), row(0),
               times(), ends(), fewest(3), fewest(2), fewest(201), begins(7, 8, 3), times(), ends()])
MANY_ANSWERED = joined([[1, 0], [1, 0], [1, 1], [5, 3, 1, 1, 1, 1], [1, -1], [1, -1], [1, -1], [1, 2],
                        [5, 3, 1, 2, 2, 2], [2, 0, 0], [2, 1, 0], [3, 7, 13, 4], [1, 2], [1, 3], [1, -1], [1, 0],
                        [4, 3, 0, 2, 4], [3, 0, 0, 0]])


def refuse_change(self, *given):
    raise AssertionError("the list that was handed in was changed")


class Untouchable(list):
    append = extend = insert = pop = remove = clear = sort = reverse = refuse_change
    __setitem__ = __delitem__ = __iadd__ = __imul__ = refuse_change


class OneCall(unittest.TestCase):
    def test_begins(self):
        self.assertEqual(answers([0, 12, 4, 3]), [1, 0])
        self.assertEqual(answers([0, 12, 4, 13]), [1, -1])

    def test_the_order_of_the_numbers_of_begins(self):
        self.assertEqual(answers([0, 30, 8, 20]), [1, 0])
        self.assertEqual(answers([0, 30, 20, 8]), [1, -1])
        self.assertEqual(answers([0, 8, 30, 20]), [1, -1])
        self.assertEqual(answers([0, 20, 8, 30]), [1, -1])

    def test_come(self):
        self.assertEqual(answers([1, 20]), [1, 0])
        self.assertEqual(answers([1, 21]), [1, -1])

    def test_row(self):
        self.assertEqual(answers([2, 0]), [2, 0, 0])
        self.assertEqual(answers([2, 1]), [1, -1])

    def test_times(self):
        self.assertEqual(answers([3]), [2, 1, 0])

    def test_ends(self):
        self.assertEqual(answers([4]), [3, 0, 0, 0])

    def test_fewest(self):
        self.assertEqual(answers([5, 200]), [1, 1])
        self.assertEqual(answers([5, 201]), [1, -1])


class ManyCalls(unittest.TestCase):
    def test_each_answer_with_its_count_before_it(self):
        self.assertEqual(answers(MANY), MANY_ANSWERED)

    def test_60_calls(self):
        self.assertEqual(answers([1, 0] * 60), joined([[1, minute] for minute in range(30)]) + [1, -5] * 30)

    def test_60_calls_of_four_numbers(self):
        self.assertEqual(answers([0, MOST, MOST, MOST] * 60), [1, -1] * 60)

    def test_a_refusal_is_its_number_alone(self):
        self.assertEqual(answers([1, 5, 2, 2, 1, MOST, 0, 0, 0, 0]), [1, 0, 1, -1, 1, -1, 1, -1])
        self.assertEqual(answers([1, 5, 5, 201, 5, 3, 5, 4]), [1, 0, 1, -1, 1, -6, 1, 1])
        self.assertEqual(answers([0, 20, 1, 1, 1, 12, 4, 3]), [1, 0, 1, 0, 1, -6, 2, 1, 0])

    def test_each_sort_behind_one_that_has_no_numbers(self):
        self.assertEqual(answers([3, 0, 2, 1, 2, 4, 1, 4, 3, 2, 1, 4, 5, 3, 3, 3]),
                         joined([[2, 1, 0], [1, 0], [3, 0, 0, 0], [1, 0], [3, 2, 0, 1], [5, 3, 1, 1, 1, 1],
                                 [3, 3, 6, 4], [1, 2], [3, 2, 0, 1], [3, 2, 0, 1]]))

    def test_whole_numbers_alone_in_a_list(self):
        answered = answers(MANY)
        self.assertIs(type(answered), list)
        self.assertEqual({type(number) for number in answered}, {int})


class WhatIsKept(unittest.TestCase):
    def test_what_is_handed_in_is_the_same_afterwards(self):
        calls = list(MANY)
        answers(calls)
        self.assertEqual(calls, MANY)

    def test_what_is_handed_in_is_not_changed_for_a_while_either(self):
        self.assertEqual(answers(Untouchable(MANY)), MANY_ANSWERED)

    def test_a_second_time_gives_the_same(self):
        calls = list(MANY)
        self.assertEqual(answers(calls), answers(calls))

    def test_nothing_is_kept_from_one_time_to_the_next(self):
        first = answers([1, 3, 2, 1])
        answers([0, 5, 8, 5] + [1, 20] * 30 + [3, 4, 5, 60])
        self.assertEqual(answers([1, 3, 2, 1]), first)
        self.assertEqual(answers([3, 4, 5, 0]), [2, 1, 0, 3, 0, 0, 0, 1, 1])
        self.assertEqual(answers([2, 1]), [1, -1])

    def test_what_is_given_back_is_free_to_be_changed(self):
        answers(MANY).clear()
        self.assertEqual(answers(MANY), MANY_ANSWERED)


class TheForm(unittest.TestCase):
    def test_the_argument(self):
        self.assertEqual(str(inspect.signature(answers)), "(calls)")

    def test_it_prints_nothing(self):
        out, err = io.StringIO(), io.StringIO()
        with contextlib.redirect_stdout(out), contextlib.redirect_stderr(err):
            answers(MANY)
        self.assertEqual((out.getvalue(), err.getvalue()), ("", ""))

    def test_it_imports_and_reads_nothing(self):
        for path in PACKAGE.glob("*.py"):
            for node in ast.walk(ast.parse(path.read_text())):
                self.assertNotIsInstance(node, (ast.Import, ast.ImportFrom), path.name)
                if isinstance(node, ast.Name):
                    self.assertNotIn(node.id, ("open", "input", "print", "__import__", "exec", "eval"), path.name)

    def test_the_size_and_the_signs_of_the_files(self):
        for path in PACKAGE.glob("*.py"):
            text = path.read_text()
            lines = text.split("\n")
            self.assertLess(len(lines), 400, path.name)
            self.assertLessEqual(max(len(line) for line in lines), 120, path.name)
            self.assertTrue(all(sign == "\n" or " " <= sign <= "~" for sign in text), path.name)
            for node in ast.walk(ast.parse(text)):
                if isinstance(node, ast.FunctionDef):
                    self.assertLessEqual(node.end_lineno - node.lineno + 1, 40, node.name)


if __name__ == "__main__":
    unittest.main()
