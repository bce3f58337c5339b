import ast
import contextlib
import io
import pathlib
import unittest

import mergedone
from mergedone.desk import answers


class TheLists(unittest.TestCase):
    def test_each_call_alone(self):
        self.assertEqual(answers([0, 3]), [1, 0])
        self.assertEqual(answers([1, 2, 4]), [1, 0])
        self.assertEqual(answers([2, 4, 4, 3, 2, 1]), [1, 0])
        self.assertEqual(answers([3, 1, 10, 2, 2, 7, 8]), [1, 1])
        self.assertEqual(answers([4, 1]), [1, -3])
        self.assertEqual(answers([5, 1, 1, 5]), [1, -3])
        self.assertEqual(answers([6, 1, 1]), [1, -3])
        self.assertEqual(answers([7, 1, 1]), [1, -3])
        self.assertEqual(answers([8, 1, 1, 5]), [1, 0])
        self.assertEqual(answers([9, 1]), [5, 0, 0, 0, 0, 0])
        self.assertEqual(answers([10, 1, 1]), [1, 0])
        self.assertEqual(answers([11, 1]), [2, 0, 0])
        self.assertEqual(answers([12, 1, 1]), [1, -5])
        self.assertEqual(answers([13]), [9, 2, 0, 0, 1, 2, 3, 4, 0, 0])

    def test_calls_one_behind_another(self):
        calls = []
        calls += [3, 1, 10, 2, 2, 7, 8]
        calls += [3, 4, 11, 0, 2, 0, 1000]
        calls += [5, 1, 2, 9]
        calls += [5, 1, 2, 0]
        calls += [6, 2, 3]
        calls += [6, 2, 0]
        calls += [1, 1, 3]
        calls += [1, 1, 0]
        calls += [2, 4, 2, 1, 4, 3]
        calls += [4, 1]
        calls += [4, 2]
        calls += [0, 4]
        expected = [1, 1, 1, 2, 1, 8, 1, 9, 1, 0, 1, 3, 1, 0, 1, 3, 1, 0, 1, 1, 1, 0, 1, 0]
        self.assertEqual(answers(calls), expected)

    def test_calls_with_several_numbers_one_behind_another(self):
        calls = []
        calls += [3, 1, 10, 2, 2, 7, 8]
        calls += [3, 4, 11, 2, 2, 7, 9]
        calls += [7, 2, 2]
        calls += [8, 2, 2, 5]
        calls += [9, 2]
        calls += [10, 2, 1]
        calls += [11, 2]
        calls += [12, 2, 1]
        calls += [12, 2, 2]
        calls += [13]
        calls += [7, 2, 2]
        calls += [8, 2, 2, 0]
        calls += [9, 2]
        expected = []
        expected += [1, 1]
        expected += [1, 2]
        expected += [1, 1]
        expected += [1, 0]
        expected += [5, 2, 1, 7, 2, 5]
        expected += [3, 2, 1, 2]
        expected += [2, 1, 1]
        expected += [3, 2, 1, 2]
        expected += [2, 1, 1]
        expected += [9, 2, 0, 0, 1, 2, 3, 4, 2, 1]
        expected += [1, 0]
        expected += [1, 5]
        expected += [5, 2, 1, 7, 1, 9]
        self.assertEqual(answers(calls), expected)

    def test_each_call_behind_each_other(self):
        each = [
            ([0, 3], [0]), ([1, 3, 5], [-1]), ([2, 4, 4, 3, 2, 1], [0]), ([3, 1, 1, 1, 3, 5, 6, 0], [1]),
            ([4, 9], [-3]), ([5, 9, 1, 1], [-3]), ([6, 9, 1], [-3]), ([7, 9, 1], [-3]), ([8, 4, 1, 0], [0]),
            ([9, 4], [0, 0, 0, 0, 0, 0, 0]), ([10, 4, 3], [0]), ([11, 4], [0, 0, 0]), ([12, 4, 3], [-5]),
            ([13], None)]
        for first, first_told in each:
            for second, second_told in each:
                if first_told is None or second_told is None or first[0] == 3 and second[0] == 3:
                    continue
                told = [1, 0, len(first_told), *first_told, len(second_told), *second_told]
                self.assertEqual(answers([0, 3] + first + second), told)
        told = [9, 2, 0, 0, 1, 2, 3, 4, 0, 0]
        self.assertEqual(answers([13, 13]), told + told)

    def test_a_refusal_is_one_number_and_the_next_call_is_found(self):
        self.assertEqual(answers([0, 0, 1, 1, 0]), [1, -1, 1, 0])
        self.assertEqual(answers([1, 3, 0, 1, 1, 0]), [1, -3, 1, 0])
        self.assertEqual(answers([4, 1, 5, 1, 1, 1, 6, 1, 1, 1, 1, 0]), [1, -3, 1, -3, 1, -3, 1, 0])
        self.assertEqual(answers([7, 1, 1, 8, 0, 1, 1, 8, 1, 1, 1001, 11, 4]), [1, -3, 1, -3, 1, -1, 2, 0, 0])
        self.assertEqual(
            answers([9, 0, 10, 1, 3, 11, 5, 12, 1, 1, 12, 5, 1, 11, 4]),
            [1, -3, 1, -3, 1, -3, 1, -5, 1, -3, 2, 0, 0])

    def test_rows_of_every_length_are_passed_over_whole(self):
        for length in range(9):
            # A row of zeros would be read as calls of fields, if its length were not heeded.
            row = [0] * length
            self.assertEqual(answers([2, length] + row + [1, 1, 2, 1, 1, 0]), [1, -1, 1, 0, 1, 2])
            first = 1 if length == 2 else -1
            calls = [3, 1, 1, 1, length] + row + [1, 1, 2, 1, 1, 0]
            self.assertEqual(answers(calls), [1, first, 1, 0, 1, 2])

    def test_sixty_calls(self):
        calls = []
        for turn in range(20):
            calls += [3, 1, 1, 1, 2, 5, 6, 6, turn + 1, 2, 4, turn + 1]
        expected = []
        for turn in range(20):
            expected += [1, turn + 1, 1, 1, 1, 0]
        self.assertEqual(answers(calls), expected)

    def test_sixty_calls_with_long_answers(self):
        calls = [0, 4]
        for number in range(12):
            calls += [3, 1, number, 1, 4, 5, 6, 7, 8]
        expected = [1, 0]
        for number in range(12):
            expected += [1, number + 1]
        numbers = list(range(1, 13))
        for turn in range(11):
            calls += [9, 1, 10, 1, 4, 12, 1, 4, 13]
            expected += [9, 12, 1, 5, 1, 6, 1, 7, 1, 8]
            expected += [13, 12] + numbers
            expected += [13, 12] + numbers
            expected += [11, 4, 0, 0, 0, 0, 1, 2, 3, 4, 12, 0]
        calls += [11, 1, 11, 2, 8, 4, 4, 1000]
        expected += [4, 1, 1, 1, 1, 4, 0, 0, 0, 0, 1, 0]
        self.assertEqual(answers(calls), expected)

    every_call = (
        [0, 3] + [1, 2, 2] + [2, 4, 4, 3, 2, 1]
        + [3, 1, 1, 1, 3, 5, 6, 7] + [3, 2, 1, 1, 3, 5, 8, 0] + [5, 1, 3, 9] + [6, 2, 1]
        + [7, 1, 2] + [7, 1, 1] + [7, 1, 1] + [8, 1, 3, 4]
        + [9, 1] + [10, 1, 1] + [11, 1] + [12, 1, 1] + [13]
        + [4, 1] + [9, 1] + [12, 2, 1] + [8, 1, 1, 0])

    def test_whole_numbers_in_a_list_are_given_back(self):
        for calls in (self.every_call, [0, 1, 3, 1, 1, 1, 1, 5, 7, 1, 1, 7, 1, 1, 12, 1, 1], [13], [9, 1]):
            given = answers(calls)
            self.assertIs(type(given), list)
            for number in given:
                self.assertIs(type(number), int)

    def test_what_is_handed_in_is_not_changed(self):
        calls = list(self.every_call)
        answers(calls)
        self.assertEqual(calls, self.every_call)

    def test_what_is_handed_in_is_only_read(self):
        class OnlyRead(list):
            def refuse(self, *given):
                raise AssertionError("the list that was handed in is changed")

            append = extend = insert = pop = remove = clear = sort = reverse = refuse
            __setitem__ = __delitem__ = __iadd__ = __imul__ = refuse

        self.assertEqual(answers(OnlyRead(self.every_call)), answers(self.every_call))

    def test_every_call_in_one_list(self):
        expected = (
            [1, 0] + [1, 0] + [1, 0] + [1, 1] + [1, 2] + [1, 7] + [1, 1]
            + [1, 1] + [1, 1] + [1, 0] + [1, 0]
            + [7, 2, 1, 5, 1, 8, 2, 4] + [3, 2, 1, 2] + [3, 1, 1, 1] + [3, 2, 1, 2]
            + [10, 3, 0, 2, 0, 4, 3, 2, 1, 2, 1]
            + [1, 1] + [7, 1, 1, 5, 1, 8, 2, 4] + [1, -5] + [1, 0])
        self.assertEqual(answers(self.every_call), expected)

    def test_called_again_it_answers_as_for_the_first_time(self):
        first = answers(self.every_call)
        kept = list(first)
        self.assertEqual(answers(self.every_call), kept)
        first.append(7)
        self.assertEqual(answers(self.every_call), kept)
        answers([0, 4, 3, 1, 1, 1, 4, 5, 6, 7, 8, 8, 1, 1, 5, 1, 1, 4, 2, 4, 4, 3, 2, 1])
        self.assertEqual(answers([13, 9, 1, 4, 1]), [9, 2, 0, 0, 1, 2, 3, 4, 0, 0, 5, 0, 0, 0, 0, 0, 1, -3])
        self.assertEqual(answers(self.every_call), kept)

    def test_nothing_is_printed(self):
        out = io.StringIO()
        err = io.StringIO()
        with contextlib.redirect_stdout(out), contextlib.redirect_stderr(err):
            answers(self.every_call)
        self.assertEqual((out.getvalue(), err.getvalue()), ("", ""))

    def test_nothing_is_imported_from_outside_the_package(self):
        files = sorted(pathlib.Path(mergedone.__file__).parent.glob("*.py"))
        self.assertIn("desk.py", [file.name for file in files])
        for file in files:
            for node in ast.walk(ast.parse(file.read_text())):
                self.assertNotIsInstance(node, ast.Import, file)
                if isinstance(node, ast.ImportFrom):
                    self.assertTrue(node.module.startswith("mergedone."), (file, node.module))


if __name__ == "__main__":
    unittest.main()
