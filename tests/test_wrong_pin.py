import unittest

from helper import (
    MOST, Refusals, a_desk, ask, ask_last, ask_last_list, ask_lists, change, conflicts, counts, fewest, fields, held,
    one, pin, put, record, remove, rule, tell, why, wrong)
from mergedone.state import Desk


class Wrong(Refusals):
    def test_alone(self):
        self.assertEqual(ask(wrong(1, 1)), [-3])

    def test_it_is_turned_round_each_time(self):
        self.assertEqual(ask(record(1, 1, 1, 7, 8), *[wrong(1, 1)] * 5), [1, 1, 0, 1, 0, 1])

    def test_each_field_of_each_record_has_its_own(self):
        answered = ask(
            record(1, 1, 1, 7, 8), record(1, 1, 1, 7, 8),
            wrong(1, 1), wrong(1, 2), wrong(2, 1), wrong(1, 1), wrong(2, 2), wrong(2, 1), wrong(1, 1))
        self.assertEqual(answered[2:], [1, 1, 1, 0, 1, 0, 1])

    def test_only_that_field_is_turned(self):
        desk = a_desk()
        rules, trusted, records, last_number, pins = held(desk)
        self.assertEqual(tell(desk, wrong(4, 3), wrong(3, 1)), [1, 0])
        records[1] = (3, 3, 7, 0, [0, 1000, 40], [False, False, False])
        records[2] = (4, 4, 1000000, 4, [11, 21, 31], [False, False, True])
        self.assertEqual(held(desk), (rules, trusted, records, last_number, pins))

    def test_the_value_is_kept(self):
        answered = ask(record(1, 1, 1, 7, 8), wrong(1, 1), change(1, 1, 9))
        self.assertEqual(answered, [1, 1, 7])

    def test_a_wrong_value_is_not_said(self):
        calls = [record(1, 5, 1, 7, 8), record(1, 4, 1, 6, 5), wrong(1, 1)]
        self.assertEqual(ask_last_list(*calls, one(1)), [2, 1, 6, 1, 8])
        self.assertEqual(ask_last_list(*calls, why(1, 1)), [1, 2])
        self.assertEqual(ask_last_list(*calls, conflicts(1)), [1, 2])
        self.assertEqual(ask_last_list(*calls, fewest(1, 1)), [1, 2])
        self.assertEqual(ask_last_list(*calls, pin(1, 1, 7), why(1, 1)), [0])

    def test_turned_round_twice_it_is_said_again(self):
        calls = [record(1, 5, 1, 7, 8), record(1, 4, 1, 6, 5), wrong(1, 1), wrong(1, 1)]
        self.assertEqual(ask_last_list(*calls, one(1)), [2, 1, 7, 1, 8])
        self.assertEqual(ask_last_list(*calls, why(1, 1)), [1, 1])
        self.assertEqual(ask_last_list(*calls, conflicts(1)), [2, 2])

    def test_a_value_0_may_be_wrong_and_is_said_neither_way(self):
        calls = [record(1, 5, 1, 0, 8), wrong(1, 1)]
        self.assertEqual(ask_last(*calls), 1)
        self.assertEqual(ask_last_list(*calls, one(1)), [1, 0, 0, 1, 8])
        self.assertEqual(ask_last_list(*calls, wrong(1, 1)), [0])
        self.assertEqual(ask_last_list(*calls, wrong(1, 1), one(1)), [1, 0, 0, 1, 8])
        self.assertEqual(ask_last_list(*calls, wrong(1, 1), conflicts(1)), [0, 1])

    def test_change_makes_it_not_wrong_any_more(self):
        for value in (0, 3, 7, 1000):
            answered = ask_lists(record(1, 5, 1, 7, 8), wrong(1, 1), change(1, 1, value), one(1), wrong(1, 1))
            one_field = [1, value] if value else [0, 0]
            self.assertEqual(answered, [[1], [1], [7], [1, *one_field, 1, 8], [1]])

    def test_change_of_another_field_or_record_leaves_it_wrong(self):
        answered = ask(
            record(1, 5, 1, 7, 8), record(1, 5, 1, 7, 8), wrong(1, 1), change(1, 2, 5), change(2, 1, 5), wrong(1, 1))
        self.assertEqual(answered, [1, 2, 1, 8, 7, 0])

    def test_a_refused_change_leaves_it_wrong(self):
        answered = ask(record(1, 5, 1, 7, 8), wrong(1, 1), change(1, 1, 1001), change(1, 3, 5), wrong(1, 1))
        self.assertEqual(answered, [1, 1, -1, -3, 0])

    def test_it_stays_wrong_at_another_thing(self):
        answered = ask_lists(record(1, 5, 1, 7, 8), wrong(1, 1), put(1, 0), put(1, 2), one(1), one(2), wrong(1, 1))
        self.assertEqual(answered, [[1], [1], [1], [0], [0, 0, 0, 0, 0], [1, 0, 0, 1, 8], [0]])

    def test_a_record_of_no_thing_can_be_wrong(self):
        self.assertEqual(ask(record(1, 5, 0, 7, 8), wrong(1, 2), wrong(1, 2)), [1, 1, 0])

    def test_a_new_record_is_not_wrong(self):
        answered = ask(record(1, 5, 1, 7, 8), wrong(1, 1), remove(1), record(1, 5, 1, 7, 8), wrong(2, 1))
        self.assertEqual(answered, [1, 1, 0, 2, 1])
        answered = ask(record(1, 5, 1, 7, 8), wrong(1, 1), fields(2), record(1, 5, 1, 7, 8), wrong(1, 1))
        self.assertEqual(answered, [1, 1, 0, 1, 1])

    def test_no_such_record_or_field(self):
        for number in (0, 2, 5, MOST):
            for field in (0, 1, 3, 4, MOST):
                self.refused(a_desk(), wrong(number, field), -3)
        for number in (1, 3, 4):
            for field in (0, 4, 5, MOST):
                self.refused(a_desk(), wrong(number, field), -3)

    def test_the_last_field(self):
        for n in (1, 2, 3, 4):
            answered = ask(fields(n), record(1, 1, 1, *[7] * n), wrong(1, n), wrong(1, n + 1), wrong(1, 0))
            self.assertEqual(answered, [0, 1, 1, -3, -3])

    def test_after_it_was_removed(self):
        self.assertEqual(ask(record(1, 1, 1, 7, 8), remove(1), wrong(1, 1)), [1, 0, -3])


class Pin(Refusals):
    def test_it_answers_what_was_pinned(self):
        answered = ask(
            pin(1, 1, 5), pin(1, 1, 6), pin(1, 1, 6), pin(1, 1, 0), pin(1, 1, 0), pin(1, 1, 1000), pin(1, 1, 1))
        self.assertEqual(answered, [0, 5, 6, 6, 0, 0, 1000])

    def test_each_field_of_each_thing_has_its_own(self):
        places = [(thing, field) for thing in (1, 2, 3, 4) for field in (1, 2, 3, 4)]
        calls = [pin(thing, field, 10 * thing + field) for thing, field in places]
        again = [pin(thing, field, 0) for thing, field in places]
        expected = [10 * thing + field for thing, field in places]
        self.assertEqual(ask(fields(4), *calls, *again), [0] + [0] * 16 + expected)
        ones = ask_lists(fields(4), *calls, *[one(thing) for thing in (1, 2, 3, 4)])[-4:]
        self.assertEqual(ones[0], [0, 2, 11, 2, 12, 2, 13, 2, 14])
        self.assertEqual(ones[3], [0, 2, 41, 2, 42, 2, 43, 2, 44])

    def test_pins_are_counted(self):
        answered = ask_lists(
            counts(), pin(1, 1, 5), counts(), pin(1, 1, 6), counts(), pin(1, 2, 6), pin(4, 1, 6), counts(),
            pin(2, 2, 0), counts(), pin(1, 1, 0), counts(), pin(1, 1, 0), counts(), pin(1, 2, 0), pin(4, 1, 0),
            counts())
        self.assertEqual([row[-1] for row in answered if len(row) > 1], [0, 1, 1, 3, 3, 2, 2, 0])

    def test_it_goes_ahead_of_what_is_chosen(self):
        calls = [record(1, 5, 1, 7, 8), pin(1, 1, 9)]
        self.assertEqual(ask_last_list(*calls, one(1)), [1, 2, 9, 1, 8])
        self.assertEqual(ask_last_list(*calls, pin(1, 1, 0), one(1)), [1, 1, 7, 1, 8])
        self.assertEqual(ask_last_list(*calls, pin(1, 1, 7), one(1)), [1, 2, 7, 1, 8])

    def test_it_stands_without_a_record(self):
        answered = ask_lists(pin(3, 2, 9), one(3), one(2), why(3, 2), pin(3, 2, 0), one(3))
        self.assertEqual(answered, [[0], [0, 0, 0, 2, 9], [0, 0, 0, 0, 0], [0], [9], [0, 0, 0, 0, 0]])

    def test_it_is_the_things_and_not_a_records(self):
        calls = [record(1, 5, 1, 7, 8), pin(1, 1, 9), put(1, 2)]
        self.assertEqual(ask_lists(*calls, one(1), one(2))[-2:], [[0, 2, 9, 0, 0], [1, 1, 7, 1, 8]])
        self.assertEqual(ask_last_list(*calls, remove(1), one(1)), [0, 2, 9, 0, 0])

    def test_it_goes_with_fields(self):
        answered = ask_lists(pin(1, 1, 9), pin(2, 2, 9), fields(2), counts(), one(1), one(2), pin(1, 1, 3))
        self.assertEqual(answered[2:], [
            [0], [2, 0, 0, 1, 2, 3, 4, 0, 0], [0, 0, 0, 0, 0], [0, 0, 0, 0, 0], [0]])

    def test_it_stays_with_a_refused_fields(self):
        self.assertEqual(ask(pin(1, 1, 9), fields(0), fields(5), pin(1, 1, 3)), [0, -1, -1, 9])

    def test_rule_trust_change_and_wrong_leave_it(self):
        answered = ask_lists(
            record(1, 5, 1, 7, 8), pin(1, 1, 9), rule(1, 3), change(1, 1, 4), wrong(1, 1), one(1), pin(1, 1, 0))
        self.assertEqual(answered[-2:], [[1, 2, 9, 1, 8], [9]])

    def test_conflicts_and_fewest_pay_no_heed_to_it(self):
        calls = [record(1, 5, 1, 7, 8), record(1, 4, 1, 6, 8), record(1, 3, 1, 7, 0)]
        for value in (5, 6, 7, 1000):
            pinned = calls + [pin(1, 1, value), pin(2, 1, value)]
            self.assertEqual(ask_last_list(*pinned, conflicts(1)), [2, 1])
            self.assertEqual(ask_last_list(*pinned, conflicts(2)), [0, 0])
            self.assertEqual(ask_last_list(*pinned, fewest(1, 1)), [1, 1])
            self.assertEqual(ask_last_list(*pinned, fewest(2, 1)), [-5])

    def test_only_the_pin_is_changed(self):
        desk = a_desk()
        rules, trusted, records, last_number, pins = held(desk)
        self.assertEqual(pins, {(1, 2): 77})
        self.assertEqual(tell(desk, pin(4, 3, 1000)), [0])
        self.assertEqual(held(desk), (rules, trusted, records, last_number, {(1, 2): 77, (4, 3): 1000}))
        self.assertEqual(tell(desk, pin(1, 2, 0), pin(4, 3, 0)), [77, 1000])
        self.assertEqual(held(desk), (rules, trusted, records, last_number, {}))

    def test_no_such_thing_or_field_ahead_of_the_value(self):
        for value in (0, 1, 1000, 1001, MOST):
            for thing in (0, 5, 6, MOST):
                for field in (0, 1, 3, 4, MOST):
                    self.refused(a_desk(), pin(thing, field, value), -3)
            for thing in (1, 4):
                for field in (0, 4, 5, MOST):
                    self.refused(a_desk(), pin(thing, field, value), -3)

    def test_the_last_field(self):
        for n in (1, 2, 3, 4):
            self.assertEqual(ask(fields(n), pin(4, n, 5), pin(4, n, 0), pin(4, n + 1, 5)), [0, 0, 5, -3])

    def test_a_value_above_1000(self):
        self.assertEqual(ask(pin(1, 1, 1000), pin(1, 1, 1001), pin(1, 1, MOST), pin(1, 1, 0)), [0, -1, -1, 1000])
        for value in (1001, MOST):
            self.refused(a_desk(), pin(1, 2, value), -1)
            self.refused(a_desk(), pin(4, 1, value), -1)
            self.refused(Desk(), pin(1, 1, value), -1)


if __name__ == "__main__":
    unittest.main()
