import unittest

from mergedone.desk import answers


class TheLists(unittest.TestCase):
    def test_each_call_alone(self):
        self.assertEqual(answers([0, 3]), [1, 0])
        self.assertEqual(answers([1, 2, 4]), [1, 0])
        self.assertEqual(answers([2, 4, 4, 3, 2, 1]), [1, 0])
        self.assertEqual(answers([3, 1, 10, 2, 2, 7, 8]), [1, 1])
        self.assertEqual(answers([4, 1]), [1, -3])
        self.assertEqual(answers([5, 1, 1, 5]), [1, -3])
        self.assertEqual(answers([6, 1, 1]), [1, -3])

    def test_calls_one_behind_another(self):
        calls = []
        calls += [3, 1, 10, 2, 2, 7, 8]
        calls += [3, 4, 11, 0, 2, 0, 1000]
        calls += [5, 1, 2, 9]
        calls += [5, 1, 2, 0]
        calls += [6, 2, 3]
        calls += [6, 2, 0]
        calls += [1, 1, 3]
        calls += [1, 1, 0]
        calls += [2, 4, 2, 1, 4, 3]
        calls += [4, 1]
        calls += [4, 2]
        calls += [0, 4]
        expected = [1, 1, 1, 2, 1, 8, 1, 9, 1, 0, 1, 3, 1, 0, 1, 3, 1, 0, 1, 1, 1, 0, 1, 0]
        self.assertEqual(answers(calls), expected)

    def test_a_refusal_is_one_number_and_the_next_call_is_found(self):
        self.assertEqual(answers([0, 0, 1, 1, 0]), [1, -1, 1, 0])
        self.assertEqual(answers([1, 3, 0, 1, 1, 0]), [1, -3, 1, 0])
        self.assertEqual(answers([4, 1, 5, 1, 1, 1, 6, 1, 1, 1, 1, 0]), [1, -3, 1, -3, 1, -3, 1, 0])

    def test_rows_of_every_length_are_passed_over_whole(self):
        for length in range(9):
            # A row of zeros would be read as calls of fields, if its length were not heeded.
            row = [0] * length
            self.assertEqual(answers([2, length] + row + [1, 1, 2, 1, 1, 0]), [1, -1, 1, 0, 1, 2])
            first = 1 if length == 2 else -1
            calls = [3, 1, 1, 1, length] + row + [1, 1, 2, 1, 1, 0]
            self.assertEqual(answers(calls), [1, first, 1, 0, 1, 2])

    def test_sixty_calls(self):
        calls = []
        for turn in range(20):
            calls += [3, 1, 1, 1, 2, 5, 6, 6, turn + 1, 2, 4, turn + 1]
        expected = []
        for turn in range(20):
            expected += [1, turn + 1, 1, 1, 1, 0]
        self.assertEqual(answers(calls), expected)

    def test_whole_numbers_in_a_list_are_given_back(self):
        given = answers([0, 1, 3, 1, 1, 1, 1, 5, 5, 1, 1, 0, 6, 1, 0, 4, 1, 4, 1, 1, 1, 4, 2, 0])
        self.assertIs(type(given), list)
        for number in given:
            self.assertIs(type(number), int)

    def test_what_is_handed_in_is_not_changed(self):
        calls = [2, 4, 4, 3, 2, 1, 3, 1, 1, 1, 2, 5, 6, 5, 1, 1, 9, 6, 1, 2, 1, 1, 3, 4, 1, 0, 3, 0, 9]
        before = list(calls)
        answers(calls)
        self.assertEqual(calls, before)

    def test_called_again_it_answers_as_for_the_first_time(self):
        calls = [3, 1, 1, 1, 2, 5, 6, 5, 1, 1, 9, 6, 1, 2, 1, 1, 3, 2, 4, 4, 3, 2, 1]
        first = answers(calls)
        self.assertEqual(first, [1, 1, 1, 5, 1, 1, 1, 0, 1, 0])
        self.assertEqual(answers(calls), first)
        first.append(7)
        self.assertEqual(answers(calls), [1, 1, 1, 5, 1, 1, 1, 0, 1, 0])
        answers([0, 4, 3, 1, 1, 1, 4, 5, 6, 7, 8])
        self.assertEqual(answers([1, 3, 0, 4, 1, 3, 1, 1, 1, 2, 1, 1]), [1, -3, 1, -3, 1, 1])


if __name__ == "__main__":
    unittest.main()
