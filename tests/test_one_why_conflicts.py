import unittest

from helper import (
    MOST, Refusals, a_desk, ask_last_list, ask_lists, change, conflicts, counts, fields, one, pin, put, record, remove,
    rule, trust, why, wrong)


class One(Refusals):
    def test_with_one_to_four_fields(self):
        for n in (1, 2, 3, 4):
            nothing = [0, 0] * n
            self.assertEqual(ask_last_list(fields(n), one(1)), [0, *nothing])
            row = [11, 12, 13, 14][:n]
            expected = [1]
            for value in row:
                expected += [1, value]
            answered = ask_lists(fields(n), record(1, 1, 3, *row), one(3), one(4))
            self.assertEqual(answered, [[0], [1], expected, [0, *nothing]])

    def test_each_kind_of_value(self):
        answered = ask_last_list(
            fields(4), record(1, 1, 2, 5, 6, 0, 7), record(1, 0, 2, 9, 0, 0, 8), pin(2, 1, 4), wrong(1, 4), one(2))
        self.assertEqual(answered, [2, 2, 4, 1, 6, 0, 0, 1, 8])

    def test_records_that_say_nothing_are_counted(self):
        calls = [record(1, 1, 1, 0, 0), record(1, 1, 1, 5, 6), wrong(2, 1), wrong(2, 2)]
        self.assertEqual(ask_last_list(*calls, one(1)), [2, 0, 0, 0, 0])

    def test_records_of_others_and_of_none_are_not_counted(self):
        calls = [record(1, 1, thing, 5 + thing, 6) for thing in (0, 1, 2, 2, 4, 0)]
        answered = ask_lists(*calls, one(1), one(2), one(3), one(4))[-4:]
        self.assertEqual(answered, [[1, 1, 6, 1, 6], [2, 1, 7, 1, 6], [0, 0, 0, 0, 0], [1, 1, 9, 1, 6]])

    def test_twelve_records(self):
        calls = [record(1, time, 1, 20 - time, 1) for time in range(12)]
        self.assertEqual(ask_last_list(*calls, one(1)), [12, 1, 9, 1, 1])

    def test_after_put_and_remove(self):
        calls = [record(1, 1, 1, 5, 6), record(1, 2, 1, 7, 8)]
        self.assertEqual(ask_last_list(*calls, put(2, 0), one(1)), [1, 1, 5, 1, 6])
        self.assertEqual(ask_last_list(*calls, put(2, 4), one(4)), [1, 1, 7, 1, 8])
        self.assertEqual(ask_last_list(*calls, remove(2), one(1)), [1, 1, 5, 1, 6])
        self.assertEqual(ask_last_list(*calls, remove(2), remove(1), one(1)), [0, 0, 0, 0, 0])

    def test_no_such_thing(self):
        for thing in (0, 5, 6, MOST):
            self.refused(a_desk(), one(thing), -3)
            self.assertEqual(ask_last_list(record(1, 1, 0, 5, 6), one(thing)), [-3])
        for thing in (1, 4):
            self.assertEqual(ask_last_list(one(thing)), [0, 0, 0, 0, 0])


class Why(Refusals):
    calls = [
        record(1, 1, 1, 5, 6), record(1, 3, 1, 7, 6), record(1, 2, 1, 5, 0), record(2, 3, 1, 7, 9),
        record(1, 9, 2, 7, 6), record(1, 9, 0, 7, 6)]

    def test_the_records_that_say_what_is_chosen(self):
        self.assertEqual(ask_last_list(*self.calls, why(1, 1)), [2, 2, 4])
        self.assertEqual(ask_last_list(*self.calls, why(1, 2)), [2, 1, 2])
        self.assertEqual(ask_last_list(*self.calls, why(2, 1)), [1, 5])
        self.assertEqual(ask_last_list(*self.calls, rule(1, 4), why(1, 1)), [2, 1, 3])
        self.assertEqual(ask_last_list(*self.calls, rule(2, 3), why(1, 2)), [1, 4])

    def test_in_the_order_in_which_they_came(self):
        calls = self.calls + [record(1, 0, 1, 7, 9), put(2, 3), put(4, 0), put(4, 1), put(2, 1)]
        self.assertEqual(ask_last_list(*calls, why(1, 1)), [3, 2, 4, 7])
        self.assertEqual(ask_last_list(*calls, remove(4), record(1, 1, 1, 7, 7), why(1, 1)), [3, 2, 7, 8])

    def test_a_value_that_was_changed_to_it(self):
        self.assertEqual(ask_last_list(*self.calls, change(1, 1, 7), why(1, 1)), [3, 1, 2, 4])

    def test_wrong_ones_do_not_say_it(self):
        self.assertEqual(ask_last_list(*self.calls, wrong(2, 1), why(1, 1)), [1, 4])
        self.assertEqual(ask_last_list(*self.calls, wrong(4, 1), why(1, 1)), [1, 2])
        self.assertEqual(ask_last_list(*self.calls, wrong(2, 1), wrong(4, 1), why(1, 1)), [2, 1, 3])

    def test_a_pin_that_some_say(self):
        self.assertEqual(ask_last_list(*self.calls, pin(1, 1, 5), why(1, 1)), [2, 1, 3])
        self.assertEqual(ask_last_list(*self.calls, pin(1, 1, 7), why(1, 1)), [2, 2, 4])
        self.assertEqual(ask_last_list(*self.calls, pin(1, 1, 5), wrong(1, 1), why(1, 1)), [1, 3])
        self.assertEqual(ask_last_list(*self.calls, pin(1, 1, 5), pin(1, 1, 0), why(1, 1)), [2, 2, 4])

    def test_a_pin_that_none_says(self):
        for value in (1, 6, 1000):
            self.assertEqual(ask_last_list(*self.calls, pin(1, 1, value), why(1, 1)), [0])
        self.assertEqual(ask_last_list(*self.calls, pin(2, 1, 5), why(2, 1)), [0])

    def test_a_pin_elsewhere_does_not_matter(self):
        self.assertEqual(ask_last_list(*self.calls, pin(2, 1, 5), pin(1, 2, 5), why(1, 1)), [2, 2, 4])

    def test_where_nothing_is_pinned_and_nothing_chosen(self):
        self.assertEqual(ask_lists(why(1, 1), why(4, 2)), [[0], [0]])
        calls = [record(1, 1, 1, 0, 6), record(1, 1, 1, 0, 6)]
        self.assertEqual(ask_last_list(*calls, why(1, 1)), [0])
        self.assertEqual(ask_last_list(*calls, wrong(1, 1), why(1, 1)), [0])
        self.assertEqual(ask_last_list(*calls, wrong(1, 2), wrong(2, 2), why(1, 2)), [0])

    def test_all_twelve(self):
        calls = [record(1, 1, 1, 5, 6)] * 12
        self.assertEqual(ask_last_list(*calls, why(1, 2)), [12] + list(range(1, 13)))

    def test_no_such_thing_or_field(self):
        for thing in (0, 5, MOST):
            for field in (0, 1, 3, 4, MOST):
                self.refused(a_desk(), why(thing, field), -3)
        for thing in (1, 4):
            for field in (0, 4, 5, MOST):
                self.refused(a_desk(), why(thing, field), -3)
        for n in (1, 2, 3, 4):
            self.assertEqual(ask_lists(fields(n), why(1, n), why(1, n + 1), why(4, 0)), [[0], [0], [-3], [-3]])


class Conflicts(Refusals):
    def test_with_one_to_four_fields(self):
        for n in (1, 2, 3, 4):
            self.assertEqual(ask_last_list(fields(n), conflicts(1)), [0] * n)
            self.assertEqual(ask_last_list(fields(n), record(1, 1, 1, *[5] * n), conflicts(1)), [1] * n)

    def test_different_values_are_counted_once_each(self):
        rows = [(5, 1, 9, 0), (6, 1, 9, 0), (5, 2, 9, 0), (7, 2, 0, 0)]
        calls = [fields(4)] + [record(1, 1, 2, *row) for row in rows]
        self.assertEqual(ask_last_list(*calls, conflicts(2)), [3, 2, 1, 0])
        self.assertEqual(ask_last_list(*calls, conflicts(1)), [0, 0, 0, 0])

    def test_wrong_values_are_not_counted(self):
        calls = [record(1, 1, 1, 5, 6), record(1, 1, 1, 7, 6), wrong(1, 1), wrong(1, 2)]
        self.assertEqual(ask_last_list(*calls, conflicts(1)), [1, 1])
        self.assertEqual(ask_last_list(*calls, wrong(2, 1), wrong(2, 2), conflicts(1)), [0, 0])
        self.assertEqual(ask_last_list(*calls, wrong(1, 1), conflicts(1)), [2, 1])

    def test_records_of_others_and_of_none_are_not_counted(self):
        calls = [record(1, 1, 1, 5, 6), record(1, 1, 2, 7, 8), record(1, 1, 0, 9, 10)]
        self.assertEqual(ask_last_list(*calls, conflicts(1)), [1, 1])
        self.assertEqual(ask_last_list(*calls, put(3, 1), conflicts(1)), [2, 2])
        self.assertEqual(ask_last_list(*calls, put(3, 1), put(2, 1), conflicts(1)), [3, 3])
        self.assertEqual(ask_last_list(*calls, put(3, 1), put(2, 1), remove(1), conflicts(1)), [2, 2])

    def test_twelve_values(self):
        calls = [record(1, 1, 1, 1 + number, 1000 - number % 5) for number in range(12)]
        self.assertEqual(ask_last_list(*calls, conflicts(1)), [12, 5])

    def test_the_rule_does_not_matter(self):
        for rule_number in range(5):
            calls = [rule(1, rule_number), record(1, 1, 1, 5, 6), record(1, 1, 1, 7, 6), record(1, 1, 1, 7, 6)]
            self.assertEqual(ask_last_list(*calls, conflicts(1)), [2, 1])

    def test_no_such_thing(self):
        for thing in (0, 5, 6, MOST):
            self.refused(a_desk(), conflicts(thing), -3)
            self.assertEqual(ask_last_list(record(1, 1, 0, 5, 6), conflicts(thing)), [-3])
        for thing in (1, 4):
            self.assertEqual(ask_last_list(conflicts(thing)), [0, 0])


class Counts(unittest.TestCase):
    def test_at_the_beginning(self):
        self.assertEqual(ask_last_list(counts()), [2, 0, 0, 1, 2, 3, 4, 0, 0])

    def test_with_one_to_four_fields(self):
        for n in (1, 2, 3, 4):
            self.assertEqual(ask_last_list(fields(n), counts()), [n] + [0] * n + [1, 2, 3, 4, 0, 0])
            rules = [4, 3, 2, 1][:n]
            calls = [rule(field, rules[field - 1]) for field in range(1, n + 1)]
            self.assertEqual(ask_last_list(fields(n), *calls, counts()), [n, *rules, 1, 2, 3, 4, 0, 0])

    def test_whole(self):
        answered = ask_last_list(
            fields(3), rule(2, 4), rule(3, 1), trust(3, 1, 4, 2), record(1, 1, 1, 5, 6, 7), record(1, 1, 0, 0, 0, 0),
            record(1, 1, 4, 5, 6, 7), remove(1), pin(1, 1, 5), pin(2, 1, 5), pin(2, 2, 5), counts())
        self.assertEqual(answered, [3, 0, 4, 1, 3, 1, 4, 2, 2, 3])

    def test_after_fields_all_is_new(self):
        answered = ask_last_list(
            rule(2, 4), trust(3, 1, 4, 2), record(1, 1, 1, 5, 6), pin(1, 1, 5), fields(1), counts())
        self.assertEqual(answered, [1, 0, 1, 2, 3, 4, 0, 0])

    def test_asking_changes_nothing(self):
        self.assertEqual(ask_lists(*[counts()] * 60), [[2, 0, 0, 1, 2, 3, 4, 0, 0]] * 60)


if __name__ == "__main__":
    unittest.main()
