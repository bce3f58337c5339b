import itertools
import unittest

from helper import (
    MOST, Refusals, a_desk, ask_last_list, ask_lists, change, fewest, fields, held, one, pin, put, record, remove,
    rule, tell, trust, wrong)
from mergedone.desk import answer
from mergedone.state import Desk


def gone(rule_number, rows, order=(1, 2, 3, 4)):
    """The records that would have to go, of rows of source, time and value."""
    records = [record(source, time, 1, value, 0) for source, time, value in rows]
    answered = ask_last_list(trust(*order), rule(1, rule_number), *records, fewest(1, 1))
    assert answered[0] == len(answered) - 1, answered
    return answered[1:]


class EveryRule(unittest.TestCase):
    def test_one_record_alone(self):
        for rule_number in range(5):
            self.assertEqual(gone(rule_number, [(3, 5, 9)]), [1])

    def test_all_say_the_same_and_nothing_is_left(self):
        for rule_number in range(5):
            for count in (2, 3, 7, 12):
                rows = [(number % 4 + 1, number * 5 % 7, 9) for number in range(count)]
                self.assertEqual(gone(rule_number, rows), list(range(1, count + 1)))

    def test_one_is_enough(self):
        self.assertEqual(gone(0, [(1, 1, 7), (1, 5, 8), (1, 2, 9)]), [2])
        self.assertEqual(gone(1, [(2, 9, 7), (3, 9, 8), (1, 2, 9)]), [3])
        self.assertEqual(gone(2, [(2, 9, 7), (3, 8, 8), (1, 2, 9)]), [1])
        self.assertEqual(gone(3, [(2, 9, 7), (3, 8, 9), (1, 2, 8)]), [2])
        self.assertEqual(gone(4, [(2, 9, 7), (3, 8, 9), (1, 2, 6)]), [3])

    def test_a_record_that_says_nothing_is_never_among_them(self):
        for rule_number in range(5):
            self.assertEqual(gone(rule_number, [(1, 9, 0), (2, 8, 9), (1, 9, 0), (3, 3, 9)]), [2, 4])

    def test_all_that_lead_with_the_same_value(self):
        self.assertEqual(gone(0, [(1, 9, 5), (1, 3, 6), (4, 8, 5), (1, 2, 5), (2, 8, 5)]), [1, 3, 5])
        self.assertEqual(gone(1, [(1, 0, 5), (3, 9, 6), (1, 8, 5), (4, 2, 5), (2, 8, 5)]), [1, 3, 5])
        self.assertEqual(gone(3, [(1, 9, 7), (1, 3, 6), (4, 8, 5), (1, 2, 7)]), [1, 4])
        self.assertEqual(gone(4, [(1, 9, 5), (1, 3, 6), (4, 8, 5), (1, 2, 7)]), [1, 3])

    def test_as_late_and_the_same_source(self):
        self.assertEqual(gone(0, [(1, 9, 6), (1, 9, 5), (1, 9, 5), (1, 8, 5)]), [2, 3])
        self.assertEqual(gone(1, [(1, 9, 6), (1, 9, 5), (1, 9, 5), (1, 8, 5)]), [2, 3])

    def test_by_another_trust(self):
        rows = [(1, 5, 7), (2, 5, 8), (3, 5, 9), (4, 5, 10)]
        for order in itertools.permutations((1, 2, 3, 4)):
            for rule_number in (0, 1, 2):
                self.assertEqual(gone(rule_number, rows, order), [order[0]])


class MostCommon(unittest.TestCase):
    def test_as_many_must_go_as_make_it_less_common(self):
        self.assertEqual(gone(2, [(1, 9, 5), (1, 9, 5), (1, 9, 5), (1, 1, 6)]), [1, 2, 3])
        self.assertEqual(gone(2, [(1, 9, 5), (1, 9, 5), (1, 9, 5), (1, 1, 6), (1, 1, 6)]), [1, 2])

    def test_as_many_are_enough_if_the_other_is_later(self):
        self.assertEqual(gone(2, [(1, 1, 5), (1, 1, 5), (1, 1, 5), (1, 9, 6)]), [1, 2])
        self.assertEqual(gone(2, [(1, 1, 5), (1, 1, 5), (1, 1, 5), (1, 9, 6), (1, 0, 6)]), [1])

    def test_of_as_few_the_first(self):
        self.assertEqual(gone(2, [(1, 9, 6), (1, 1, 5), (1, 2, 5), (1, 3, 5), (1, 4, 5)]), [2, 3, 4])
        self.assertEqual(gone(2, [(1, 4, 5), (1, 9, 6), (1, 3, 5), (1, 8, 6), (1, 2, 5), (1, 1, 5)]), [1, 3])

    def test_those_that_are_later_than_the_other_must_go_and_then_the_first(self):
        self.assertEqual(gone(2, [(1, 1, 5), (1, 2, 5), (1, 5, 6), (1, 3, 5), (1, 9, 5)]), [1, 2, 5])
        self.assertEqual(gone(2, [(1, 1, 5), (1, 2, 5), (1, 5, 6), (1, 5, 6), (1, 3, 5), (1, 9, 5)]), [1, 6])
        self.assertEqual(gone(2, [(1, 1, 5), (1, 5, 6), (1, 5, 6), (1, 9, 5), (1, 9, 5)]), [1, 4])

    def test_if_more_are_later_than_may_go_then_one_more_and_the_first(self):
        self.assertEqual(gone(2, [(1, 1, 5), (1, 8, 5), (1, 9, 5), (1, 7, 6), (1, 7, 6)]), [1, 2])
        self.assertEqual(gone(2, [(1, 9, 5), (1, 1, 5), (1, 7, 6), (1, 0, 6)]), [1])
        self.assertEqual(gone(2, [(1, 1, 5), (1, 9, 5), (1, 7, 6), (1, 0, 6)]), [1])

    def test_the_source_and_the_value_break_the_tie(self):
        self.assertEqual(gone(2, [(2, 5, 5), (2, 5, 5), (1, 5, 6)]), [1])
        self.assertEqual(gone(2, [(1, 5, 5), (1, 5, 5), (2, 5, 6)]), [1, 2])
        self.assertEqual(gone(2, [(1, 5, 5), (1, 5, 5), (2, 5, 6)], (2, 1, 3, 4)), [1])
        self.assertEqual(gone(2, [(1, 5, 5), (1, 5, 5), (1, 5, 6)]), [1, 2])
        self.assertEqual(gone(2, [(1, 5, 6), (1, 5, 6), (1, 5, 5)]), [1])

    def test_the_best_of_several_others_counts(self):
        self.assertEqual(gone(2, [(1, 5, 5), (1, 5, 5), (1, 5, 5), (1, 9, 6), (1, 1, 7), (1, 1, 7)]), [1, 2])
        self.assertEqual(gone(2, [(1, 5, 5), (1, 5, 5), (1, 5, 5), (1, 9, 7), (1, 1, 7), (1, 1, 6)]), [1])

    def test_twelve_records(self):
        rows = [(1, 1, 5)] * 8 + [(1, 9, 6)] * 2 + [(1, 1, 7)] * 2
        self.assertEqual(gone(2, rows), [1, 2, 3, 4, 5, 6])
        self.assertEqual(gone(2, list(reversed(rows))), [5, 6, 7, 8, 9, 10])
        eleven = [(1, number, 5) for number in range(11)]
        self.assertEqual(gone(2, eleven + [(2, 0, 6)]), [1, 2, 3, 4, 5, 6, 7, 8, 9, 10, 11])
        self.assertEqual(gone(2, eleven + [(1, 6, 6)]), [1, 2, 3, 4, 5, 7, 8, 9, 10, 11])
        self.assertEqual(gone(2, eleven + [(1, 10, 4)]), [1, 2, 3, 4, 5, 6, 7, 8, 9, 10])


class Fewest(Refusals):
    calls = [record(1, 3, 1, 7, 8), record(1, 2, 1, 6, 8), record(1, 9, 2, 5, 4), record(1, 9, 0, 5, 4)]

    def test_only_the_records_of_the_thing(self):
        self.assertEqual(ask_last_list(*self.calls, fewest(1, 1)), [1, 1])
        self.assertEqual(ask_last_list(*self.calls, fewest(1, 2)), [2, 1, 2])
        self.assertEqual(ask_last_list(*self.calls, fewest(2, 1)), [1, 3])
        self.assertEqual(ask_last_list(*self.calls, put(4, 1), fewest(1, 2)), [1, 4])
        self.assertEqual(ask_last_list(*self.calls, put(1, 0), fewest(1, 2)), [1, 2])
        self.assertEqual(ask_last_list(*self.calls, remove(1), fewest(1, 1)), [1, 2])

    def test_wrong_values_are_not_said(self):
        self.assertEqual(ask_last_list(*self.calls, wrong(1, 2), fewest(1, 2)), [1, 2])
        self.assertEqual(ask_last_list(*self.calls, wrong(2, 1), fewest(1, 1)), [1, 1])

    def test_numbers_that_are_not_the_first(self):
        calls = [record(1, 3, 1, 7, 8)] * 4 + [remove(1), remove(3)] + [record(1, 3, 1, 7, 8)] * 2
        self.assertEqual(ask_last_list(*calls, fewest(1, 1)), [4, 2, 4, 5, 6])

    def test_the_order_of_coming_is_kept_when_a_record_is_put_back(self):
        calls = [rule(1, 2)] + [record(1, 1, 1, 5, 0)] * 3 + [record(1, 9, 1, 6, 0), put(1, 0), put(1, 1)]
        self.assertEqual(ask_last_list(*calls, fewest(1, 1)), [2, 1, 2])

    def test_what_is_pinned_does_not_matter(self):
        for value in (6, 7, 9):
            self.assertEqual(ask_last_list(*self.calls, pin(1, 1, value), fewest(1, 1)), [1, 1])

    def test_nothing_goes_by_asking(self):
        for rule_number in range(5):
            desk = Desk()
            tell(desk, rule(1, rule_number), *self.calls)
            before = held(desk)
            answer(desk, fewest(1, 1))
            answer(desk, fewest(1, 2))
            self.assertEqual(held(desk), before)

    def test_when_these_go_something_else_is_chosen(self):
        rows = [(1, 5, 7), (2, 5, 7), (3, 6, 7), (1, 5, 8), (4, 5, 8), (2, 1, 6)]
        for rule_number in range(5):
            calls = [rule(1, rule_number)] + [record(source, time, 1, value, 0) for source, time, value in rows]
            before = ask_last_list(*calls, one(1))[2]
            numbers = ask_last_list(*calls, fewest(1, 1))[1:]
            after = ask_last_list(*calls, *[remove(number) for number in numbers], one(1))[2]
            self.assertNotEqual(before, after)

    def test_none_says_anything(self):
        self.assertEqual(ask_lists(fewest(1, 1), fewest(4, 2)), [[-5], [-5]])
        calls = [record(1, 1, 1, 0, 5), record(1, 1, 1, 0, 6), record(1, 1, 2, 7, 7), record(1, 1, 0, 7, 7)]
        self.assertEqual(ask_last_list(*calls, fewest(1, 1)), [-5])
        self.assertEqual(ask_last_list(*calls, fewest(1, 2)), [1, 1])
        self.assertEqual(ask_last_list(*calls, fewest(3, 1)), [-5])
        self.assertEqual(ask_last_list(*calls, wrong(1, 2), wrong(2, 2), fewest(1, 2)), [-5])
        self.assertEqual(ask_last_list(*calls, wrong(3, 1), fewest(2, 1)), [-5])
        self.assertEqual(ask_last_list(*calls, change(1, 2, 0), change(2, 2, 0), fewest(1, 2)), [-5])
        self.assertEqual(ask_last_list(*calls, put(3, 0), fewest(2, 1)), [-5])
        self.assertEqual(ask_last_list(*calls, remove(3), fewest(2, 1)), [-5])
        self.assertEqual(ask_last_list(*calls, pin(1, 1, 5), fewest(1, 1)), [-5])

    def test_none_says_anything_leaves_all_as_it_was(self):
        self.refused(a_desk(), fewest(1, 2), -5)
        self.refused(a_desk(), fewest(2, 1), -5)
        self.refused(a_desk(), fewest(3, 3), -5)

    def test_no_such_thing_or_field_ahead_of_that(self):
        for thing in (0, 5, 6, MOST):
            for field in (0, 1, 3, 4, MOST):
                self.refused(a_desk(), fewest(thing, field), -3)
                self.refused(Desk(), fewest(thing, field), -3)
        for thing in (1, 4):
            for field in (0, 4, 5, MOST):
                self.refused(a_desk(), fewest(thing, field), -3)
                self.refused(Desk(), fewest(thing, field), -3)

    def test_the_last_field(self):
        for n in (1, 2, 3, 4):
            calls = [fields(n), record(1, 1, 4, *[7] * n)]
            self.assertEqual(ask_lists(*calls, fewest(4, n), fewest(4, n + 1))[-2:], [[1, 1], [-3]])


if __name__ == "__main__":
    unittest.main()
