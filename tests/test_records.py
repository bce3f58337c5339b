import unittest

from helper import MOST, Refusals, a_desk, ask, ask_last, change, fields, held, put, record, remove, tell
from mergedone.state import Desk


def full_desk():
    desk = Desk()
    tell(desk, *[record(1, 1, 1, 7, 8)] * 12)
    return desk


class ARecord(Refusals):
    def test_numbers_go_on_from_1(self):
        self.assertEqual(ask(*[record(1, 1, 1, 7, 8)] * 3), [1, 2, 3])

    def test_the_desk_keeps_what_it_was_told(self):
        desk = Desk()
        self.assertEqual(tell(desk, record(3, 1000000, 4, 0, 1000), record(1, 0, 0, 5, 6)), [1, 2])
        self.assertEqual(held(desk)[2], [
            (1, 3, 1000000, 4, [0, 1000], [False, False]),
            (2, 1, 0, 0, [5, 6], [False, False])])

    def test_a_refused_one_uses_no_number(self):
        answered = ask(record(1, 1, 1, 7, 8), record(0, 1, 1, 7, 8), record(1, 1, 1, 7), record(1, 1, 1, 7, 8))
        self.assertEqual(answered, [1, -1, -1, 2])

    def test_sources(self):
        for source in (1, 2, 3, 4):
            self.assertEqual(ask(record(source, 1, 1, 7, 8)), [1])
        for source in (0, 5, 6, MOST):
            self.assertEqual(ask(record(source, 1, 1, 7, 8), remove(1)), [-1, -3])
            self.refused(a_desk(), record(source, 1, 1, 7, 8, 9), -1)

    def test_times(self):
        for time in (0, 1, 999999, 1000000):
            self.assertEqual(ask(record(1, time, 1, 7, 8)), [1])
        for time in (1000001, MOST):
            self.assertEqual(ask(record(1, time, 1, 7, 8), remove(1)), [-1, -3])
            self.refused(a_desk(), record(1, time, 1, 7, 8, 9), -1)

    def test_things(self):
        for thing in (0, 1, 2, 3, 4):
            self.assertEqual(ask(record(1, 1, thing, 7, 8), put(1, 0)), [1, thing])
        for thing in (5, 6, MOST):
            self.assertEqual(ask(record(1, 1, thing, 7, 8), remove(1)), [-1, -3])
            self.refused(a_desk(), record(1, 1, thing, 7, 8, 9), -1)

    def test_a_value_for_each_field(self):
        for n in (1, 2, 3, 4):
            for length in range(9):
                expected = 1 if length == n else -1
                self.assertEqual(ask_last(fields(n), record(1, 1, 1, *[7] * length)), expected)

    def test_values(self):
        for value in (0, 1, 999, 1000):
            for place in range(3):
                row = [7, 8, 9]
                row[place] = value
                self.assertEqual(ask_last(fields(3), record(1, 1, 1, *row), change(1, place + 1, 5)), value)
        for value in (1001, MOST):
            for place in range(3):
                row = [7, 8, 9]
                row[place] = value
                self.assertEqual(ask(fields(3), record(1, 1, 1, *row), remove(1)), [0, -1, -3])
                self.refused(a_desk(), record(1, 1, 1, *row), -1)

    def test_twelve_are_taken_and_a_thirteenth_is_not(self):
        answered = ask(*[record(1, 1, 1, 7, 8)] * 14, remove(12), record(1, 1, 1, 7, 8), record(1, 1, 1, 7, 8))
        self.assertEqual(answered, list(range(1, 13)) + [-6, -6, 11, 13, -6])
        self.refused(full_desk(), record(4, 9, 0, 0, 0), -6)

    def test_records_of_no_thing_and_of_several_count_for_the_twelve(self):
        calls = [record(1, 1, number % 5, 7, 8) for number in range(13)]
        self.assertEqual(ask(*calls), list(range(1, 13)) + [-6])

    def test_what_is_wrong_is_told_ahead_of_twelve(self):
        wrong_ones = (
            record(0, 1, 1, 7, 8), record(5, 1, 1, 7, 8), record(1, 1000001, 1, 7, 8), record(1, 1, 5, 7, 8),
            record(1, 1, 1), record(1, 1, 1, 7), record(1, 1, 1, 7, 8, 9), record(1, 1, 1, 1001, 8),
            record(1, 1, 1, 7, 1001), record(MOST, MOST, MOST, *[MOST] * 8))
        for call in wrong_ones:
            self.assertEqual(ask_last(*[record(1, 1, 1, 7, 8)] * 12, call), -1, call)
            self.refused(full_desk(), call, -1)


class Remove(Refusals):
    def test_it_answers_how_many_there_are_then(self):
        calls = [record(1, 1, thing, 7, 8) for thing in (0, 1, 4, 1)]
        self.assertEqual(ask(*calls, remove(2), remove(4), remove(1), remove(3))[4:], [3, 2, 1, 0])

    def test_no_such_record(self):
        for number in (0, 2, 5, MOST):
            self.refused(a_desk(), remove(number), -3)
        self.assertEqual(ask(remove(0), remove(1), record(1, 1, 1, 7, 8), remove(2)), [-3, -3, 1, -3])

    def test_not_twice(self):
        answered = ask(record(1, 1, 1, 7, 8), record(1, 1, 1, 7, 8), remove(1), remove(1), remove(2), remove(2))
        self.assertEqual(answered, [1, 2, 1, -3, 0, -3])

    def test_its_number_is_not_used_again(self):
        self.assertEqual(
            ask(record(1, 1, 1, 7, 8), remove(1), record(1, 1, 1, 7, 8), remove(2), record(1, 1, 1, 7, 8), put(1, 0)),
            [1, 0, 2, 0, 3, -3])
        self.assertEqual(
            ask(*[record(1, 1, 1, 7, 8)] * 3, remove(1), record(1, 1, 1, 7, 8), remove(4), record(1, 1, 1, 7, 8)),
            [1, 2, 3, 2, 4, 2, 5])

    def test_the_others_stay_as_they_were_and_in_their_order(self):
        desk = a_desk()
        before = held(desk)
        self.assertEqual(tell(desk, remove(3)), [2])
        rules, trusted, records, last_number, pins = before
        self.assertEqual([row[0] for row in records], [1, 3, 4])
        self.assertEqual(held(desk), (rules, trusted, [records[0], records[2]], last_number, pins))


class Change(Refusals):
    def test_it_answers_the_value_that_was(self):
        answered = ask(
            record(1, 1, 1, 7, 8),
            change(1, 1, 9), change(1, 2, 0), change(1, 1, 1000), change(1, 2, 1), change(1, 1, 1))
        self.assertEqual(answered, [1, 7, 8, 9, 0, 1000])

    def test_each_record_has_its_own_values(self):
        answered = ask(
            record(1, 1, 1, 7, 8), record(1, 1, 1, 7, 8),
            change(2, 1, 3), change(1, 1, 4), change(2, 1, 0), change(1, 1, 0))
        self.assertEqual(answered, [1, 2, 7, 7, 3, 4])

    def test_no_such_record_or_field(self):
        for number in (0, 2, 5, MOST):
            for field in (0, 1, 4, MOST):
                for value in (0, 1000, 1001, MOST):
                    self.refused(a_desk(), change(number, field, value), -3)
        for field in (0, 4, 5, MOST):
            for value in (0, 1000, 1001, MOST):
                self.refused(a_desk(), change(1, field, value), -3)

    def test_after_it_was_removed(self):
        answered = ask(record(1, 1, 1, 7, 8), remove(1), change(1, 1, 5), change(1, 1, 1001), change(1, 3, 5))
        self.assertEqual(answered, [1, 0, -3, -3, -3])

    def test_the_last_field(self):
        for n in (1, 2, 3, 4):
            row = [5, 6, 7, 8][:n]
            answered = ask(fields(n), record(1, 1, 1, *row), change(1, n, 0), change(1, n + 1, 0))
            self.assertEqual(answered, [0, 1, 4 + n, -3])

    def test_a_value_above_1000(self):
        self.assertEqual(
            ask(record(1, 1, 1, 7, 8), change(1, 1, 1000), change(1, 1, 1001), change(1, 1, MOST), change(1, 1, 0)),
            [1, 7, -1, -1, 1000])
        for value in (1001, MOST):
            # The field is wrong, and a refusal leaves it so.
            self.refused(a_desk(), change(1, 2, value), -1)

    def test_the_field_is_not_wrong_any_more(self):
        for value in (0, 5, 20):
            desk = a_desk()
            rules, trusted, records, last_number, pins = held(desk)
            self.assertEqual(records[0], (1, 1, 5, 1, [10, 20, 30], [False, True, False]))
            self.assertEqual(tell(desk, change(1, 2, value)), [20])
            records[0] = (1, 1, 5, 1, [10, value, 30], [False, False, False])
            self.assertEqual(held(desk), (rules, trusted, records, last_number, pins))

    def test_another_field_stays_wrong(self):
        desk = a_desk()
        self.assertEqual(tell(desk, change(1, 1, 99), change(1, 3, 99)), [10, 30])
        self.assertEqual(desk.records[1].field_wrong, [False, True, False])
        self.assertEqual(desk.records[3].field_wrong, [True, False, False])


class Put(Refusals):
    def test_it_answers_of_which_thing_it_was(self):
        answered = ask(record(1, 1, 3, 7, 8), put(1, 1), put(1, 0), put(1, 4), put(1, 4), put(1, 2))
        self.assertEqual(answered, [1, 3, 1, 0, 4, 4])

    def test_only_the_thing_is_changed(self):
        desk = a_desk()
        rules, trusted, records, last_number, pins = held(desk)
        self.assertEqual(tell(desk, put(3, 2)), [0])
        records[1] = (3, 3, 7, 2, [0, 1000, 40], [True, False, False])
        self.assertEqual(held(desk), (rules, trusted, records, last_number, pins))

    def test_a_thing_above_4(self):
        for thing in (5, 6, MOST):
            self.assertEqual(ask(record(1, 1, 3, 7, 8), put(1, thing), put(1, 0)), [1, -1, 3])
            self.refused(a_desk(), put(4, thing), -1)

    def test_no_such_record(self):
        for number in (0, 2, 5, MOST):
            for thing in (0, 4, 5, MOST):
                self.refused(a_desk(), put(number, thing), -3)

    def test_after_it_was_removed(self):
        self.assertEqual(ask(record(1, 1, 1, 7, 8), remove(1), put(1, 2), put(1, 5)), [1, 0, -3, -3])

    def test_a_record_of_no_thing_is_still_there(self):
        answered = ask(record(1, 1, 1, 7, 8), put(1, 0), change(1, 1, 5), put(1, 2), remove(1))
        self.assertEqual(answered, [1, 1, 7, 0, 0])


if __name__ == "__main__":
    unittest.main()
