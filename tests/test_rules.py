import itertools
import unittest

from helper import ask_last_list, ask_lists, change, one, put, record, remove, rule, trust, why, wrong


def chosen(rule_number, rows, order=(1, 2, 3, 4)):
    """What is chosen of field 1 from rows of source, time and value; 0 if nothing is."""
    records = [record(source, time, 1, value, 0) for source, time, value in rows]
    answered = ask_last_list(trust(*order), rule(1, rule_number), *records, one(1))
    count, how, value, other_how, other_value = answered
    assert count == len(rows) and (other_how, other_value) == (0, 0), answered
    assert how == (1 if value else 0), answered
    return value


class Rules(unittest.TestCase):
    def chooses(self, rule_number, rows, value, order=(1, 2, 3, 4)):
        """In whatever order the records came."""
        for turned in itertools.permutations(rows):
            self.assertEqual(chosen(rule_number, turned, order), value, turned)


class EveryRule(Rules):
    def test_one_record_is_chosen(self):
        for rule_number in range(5):
            self.chooses(rule_number, [(4, 0, 1000)], 1000)
            self.chooses(rule_number, [(1, 1000000, 1)], 1)

    def test_what_is_said_by_all_is_chosen(self):
        for rule_number in range(5):
            self.chooses(rule_number, [(4, 0, 9), (1, 7, 9), (2, 3, 9), (4, 0, 9)], 9)

    def test_nothing_is_chosen_from_nothing(self):
        for rule_number in range(5):
            self.chooses(rule_number, [], 0)
            self.chooses(rule_number, [(1, 5, 0), (2, 6, 0)], 0)

    def test_a_value_0_is_passed_over(self):
        for rule_number in range(5):
            self.chooses(rule_number, [(1, 9, 0), (1, 9, 0), (4, 1, 6)], 6)

    def test_a_wrong_value_is_passed_over(self):
        for rule_number, value in ((0, 5), (1, 5), (2, 5), (3, 5), (4, 3)):
            calls = [
                rule(1, rule_number), record(1, 9, 1, 5, 0), record(4, 1, 1, 3, 0), record(1, 8, 1, 5, 0)]
            self.assertEqual(ask_last_list(*calls, one(1))[1:3], [1, value])
            for number in (1, 2, 3):
                calls.append(wrong(number, 1))
            self.assertEqual(ask_last_list(*calls, one(1)), [3, 0, 0, 0, 0])
            self.assertEqual(ask_last_list(*calls, wrong(2, 1), one(1)), [3, 1, 3, 0, 0])
            self.assertEqual(ask_last_list(*calls, wrong(3, 1), one(1)), [3, 1, 5, 0, 0])


class Latest(Rules):
    def test_the_later_one(self):
        self.chooses(0, [(4, 3, 5), (1, 2, 9), (1, 1, 1)], 5)
        self.chooses(0, [(4, 1000000, 500), (1, 999999, 9), (1, 0, 1)], 500)
        self.chooses(0, [(4, 1, 9), (1, 0, 5)], 9)

    def test_it_is_later_by_number_and_not_by_sign(self):
        self.chooses(0, [(1, 9, 5), (2, 10, 6), (1, 2, 7)], 6)

    def test_the_latest_against_many(self):
        self.chooses(0, [(4, 3, 5), (1, 2, 9), (2, 2, 9), (3, 2, 9)], 5)

    def test_of_as_late_ones_the_more_trusted(self):
        self.chooses(0, [(1, 3, 9), (2, 3, 5), (3, 3, 1)], 9)
        self.chooses(0, [(2, 3, 9), (4, 3, 5), (3, 3, 1), (1, 2, 4)], 9)

    def test_of_as_late_ones_by_another_trust(self):
        rows = [(1, 3, 11), (2, 3, 12), (3, 3, 13), (4, 3, 14)]
        for order in itertools.permutations((1, 2, 3, 4)):
            self.assertEqual(chosen(0, rows, order), 10 + order[0])
            without = [row for row in rows if row[0] != order[0]]
            self.assertEqual(chosen(0, without, order), 10 + order[1])
            self.assertEqual(chosen(0, [row for row in without if row[0] != order[1]], order), 10 + order[2])

    def test_of_the_same_source_the_lesser_value(self):
        self.chooses(0, [(2, 3, 9), (2, 3, 5), (2, 3, 10), (1, 2, 1)], 5)
        self.chooses(0, [(2, 3, 9), (2, 3, 10)], 9)

    def test_the_lesser_value_only_of_the_same_source_and_time(self):
        self.chooses(0, [(2, 3, 9), (2, 2, 5), (3, 3, 1)], 9)


class MostTrusted(Rules):
    def test_the_more_trusted(self):
        self.chooses(1, [(1, 1, 9), (2, 7, 5), (3, 8, 1), (4, 9, 2)], 9)
        self.chooses(1, [(2, 1, 9), (3, 8, 1), (4, 9, 2)], 9)
        self.chooses(1, [(3, 1, 9), (4, 9, 2)], 9)

    def test_by_another_trust(self):
        rows = [(1, 5, 11), (2, 2, 12), (3, 7, 13), (4, 1, 14)]
        for order in itertools.permutations((1, 2, 3, 4)):
            self.assertEqual(chosen(1, rows, order), 10 + order[0])
            self.assertEqual(chosen(1, [row for row in rows if row[0] != order[0]], order), 10 + order[1])
            least = [row for row in rows if row[0] in order[2:]]
            self.assertEqual(chosen(1, least, order), 10 + order[2])

    def test_of_the_same_source_the_later(self):
        self.chooses(1, [(2, 4, 9), (2, 3, 5), (2, 1, 1), (3, 8, 2)], 9)
        self.chooses(1, [(2, 9, 9), (2, 10, 8), (2, 1, 1)], 8)

    def test_of_as_late_ones_the_lesser_value(self):
        self.chooses(1, [(2, 4, 9), (2, 4, 8), (2, 4, 10), (2, 3, 1), (4, 9, 2)], 8)


class MostCommon(Rules):
    def test_the_value_that_more_say(self):
        self.chooses(2, [(4, 1, 9), (3, 2, 9), (1, 8, 5)], 9)
        self.chooses(2, [(4, 1, 9), (4, 1, 9), (4, 1, 9), (1, 8, 5), (1, 8, 5)], 9)

    def test_two_against_several_by_themselves(self):
        self.chooses(2, [(4, 1, 9), (4, 0, 9), (1, 8, 5), (1, 7, 4), (2, 9, 3)], 9)

    def test_of_as_many_the_later(self):
        self.chooses(2, [(4, 5, 9), (1, 4, 5), (1, 3, 1)], 9)
        self.chooses(2, [(4, 5, 9), (4, 0, 9), (1, 4, 5), (1, 4, 5), (1, 9, 7)], 9)
        self.chooses(2, [(4, 10, 9), (1, 9, 5)], 9)

    def test_of_as_many_and_as_late_the_more_trusted(self):
        self.chooses(2, [(2, 5, 9), (4, 1, 9), (3, 5, 5), (1, 1, 5), (1, 6, 2)], 9)
        rows = [(2, 5, 9), (4, 1, 9), (3, 5, 5), (1, 1, 5), (1, 6, 2)]
        self.chooses(2, rows, 5, (3, 4, 2, 1))
        self.chooses(2, rows, 9, (4, 2, 3, 1))

    def test_of_as_many_as_late_and_the_same_source_the_lesser_value(self):
        self.chooses(2, [(2, 5, 9), (4, 1, 9), (2, 5, 10), (1, 1, 10), (1, 6, 2)], 9)
        self.chooses(2, [(2, 5, 9), (2, 5, 8)], 8)

    def test_values_0_are_not_counted(self):
        self.chooses(2, [(1, 9, 0), (1, 9, 0), (1, 9, 0), (4, 1, 9), (4, 2, 8), (4, 1, 9)], 9)

    def test_wrong_values_are_not_counted(self):
        calls = [rule(1, 2), record(1, 1, 1, 9, 9), record(1, 2, 1, 9, 9), record(1, 3, 1, 5, 5)]
        self.assertEqual(ask_last_list(*calls, one(1)), [3, 1, 9, 1, 5])
        self.assertEqual(ask_last_list(*calls, wrong(1, 1), one(1)), [3, 1, 5, 1, 5])
        self.assertEqual(ask_last_list(*calls, wrong(1, 2), one(1)), [3, 1, 9, 1, 5])

    def test_another_things_records_are_not_counted(self):
        calls = [rule(1, 2), record(1, 1, 1, 9, 9), record(1, 2, 2, 9, 9), record(1, 2, 0, 9, 9), record(1, 3, 1, 5, 5)]
        self.assertEqual(ask_last_list(*calls, one(1)), [2, 1, 5, 1, 5])
        self.assertEqual(ask_last_list(*calls, put(3, 1), one(1)), [3, 1, 9, 1, 5])

    def test_another_fields_values_are_not_counted(self):
        calls = [rule(1, 2), record(1, 1, 1, 9, 5), record(1, 3, 1, 5, 9), record(1, 2, 1, 9, 9)]
        self.assertEqual(ask_lists(*calls, rule(2, 2), one(1))[-1], [3, 1, 9, 1, 9])
        self.assertEqual(ask_lists(*calls, rule(2, 2), change(3, 1, 5), change(3, 2, 5), one(1))[-1], [3, 1, 5, 1, 5])


class GreatestAndLeast(Rules):
    rows = [(1, 9, 5), (2, 8, 10), (3, 7, 9), (4, 6, 100), (2, 8, 10)]

    def test_the_greatest(self):
        self.chooses(3, self.rows, 100)
        self.chooses(3, [(1, 9, 5), (2, 8, 10), (1, 7, 9), (1, 9, 9), (1, 9, 9)], 10)
        self.chooses(3, [(1, 9, 1), (2, 8, 1000)], 1000)

    def test_the_least(self):
        self.chooses(4, [(2, 9, 10), (1, 8, 10), (4, 1, 9), (2, 8, 100)], 9)
        self.chooses(4, [(1, 9, 1000), (2, 8, 1)], 1)
        self.chooses(4, self.rows, 5)

    def test_the_trust_does_not_matter(self):
        for order in itertools.permutations((1, 2, 3, 4)):
            self.assertEqual(chosen(3, self.rows, order), 100)
            self.assertEqual(chosen(4, self.rows, order), 5)


class TheWholeDesk(unittest.TestCase):
    def test_each_field_goes_by_its_own_rule(self):
        rows = [(3, 9, 4), (1, 2, 5), (2, 3, 1), (4, 1, 6), (4, 0, 6)]
        records = [record(source, time, 2, value, value, value, value) for source, time, value in rows]
        calls = [[0, 4], rule(2, 1), rule(3, 2), rule(4, 3)]
        self.assertEqual(ask_last_list(*calls, *records, one(2)), [5, 1, 4, 1, 5, 1, 6, 1, 6])
        self.assertEqual(ask_last_list(*calls, *records, rule(1, 4), one(2)), [5, 1, 1, 1, 5, 1, 6, 1, 6])

    def test_a_rule_and_a_trust_hold_for_the_records_that_are_there(self):
        calls = [record(1, 5, 1, 7, 7), record(2, 5, 1, 6, 6), record(3, 4, 1, 8, 8)]
        self.assertEqual(ask_last_list(*calls, one(1)), [3, 1, 7, 1, 7])
        self.assertEqual(ask_last_list(*calls, trust(3, 2, 1, 4), one(1)), [3, 1, 6, 1, 6])
        self.assertEqual(ask_last_list(*calls, trust(3, 2, 1, 4), rule(2, 1), one(1)), [3, 1, 6, 1, 8])
        self.assertEqual(ask_last_list(*calls, trust(3, 2, 1, 4), trust(1, 1, 2, 3), one(1)), [3, 1, 6, 1, 6])

    def test_in_whatever_order_the_records_came_the_one_record_is_the_same(self):
        rows = [(1, 5, 7, 3), (2, 5, 6, 3), (2, 5, 9, 2), (3, 4, 9, 2), (4, 6, 6, 0)]
        for first in range(5):
            for second in range(5):
                found = []
                for turned in itertools.permutations(rows):
                    records = [record(source, time, 3, left, right) for source, time, left, right in turned]
                    answered = ask_last_list(trust(4, 2, 1, 3), rule(1, first), rule(2, second), *records, one(3))
                    if answered not in found:
                        found.append(answered)
                self.assertEqual(len(found), 1, (first, second, found))

    def leaves_no_trace(self, *last_calls):
        before = [record(1, 5, 1, 7, 7), record(2, 9, 1, 6, 6), record(3, 4, 1, 7, 6)]
        for rule_number in range(5):
            without = [rule(1, rule_number), rule(2, rule_number), before[0], before[2]]
            with_it = [rule(1, rule_number), rule(2, rule_number), *before, *last_calls]
            self.assertEqual(ask_last_list(*with_it, one(1)), ask_last_list(*without, one(1)))
            for field in (1, 2):
                found = ask_last_list(*with_it, why(1, field))
                self.assertEqual(found[0], ask_last_list(*without, why(1, field))[0])
                self.assertNotIn(2, found[1:])

    def test_a_removed_record_leaves_no_trace(self):
        self.leaves_no_trace(remove(2))

    def test_a_record_put_to_another_thing_or_to_none_leaves_no_trace(self):
        for thing in (0, 2, 3, 4):
            self.leaves_no_trace(put(2, thing))

    def test_put_back_it_is_as_if_it_had_not_been_away(self):
        calls = [record(1, 5, 1, 7, 7), record(2, 9, 1, 6, 6), record(3, 4, 1, 7, 6)]
        self.assertEqual(ask_last_list(*calls, one(1)), [3, 1, 6, 1, 6])
        self.assertEqual(ask_last_list(*calls, put(1, 0), put(2, 3), put(2, 1), put(1, 1), one(1)), [3, 1, 6, 1, 6])
        self.assertEqual(ask_last_list(*calls, put(2, 3), put(2, 1), why(1, 2)), [2, 2, 3])

    def test_a_changed_value_leaves_no_trace(self):
        for rule_number in range(5):
            calls = [rule(1, rule_number), record(1, 5, 1, 7, 7), record(2, 4, 1, 900, 6), record(2, 4, 1, 900, 6)]
            changed = ask_last_list(*calls, change(2, 1, 0), change(3, 1, 0), one(1))
            self.assertEqual(changed[1:3], [1, 7])


if __name__ == "__main__":
    unittest.main()
