import itertools
import unittest

from helper import MOST, ask, ask_last, change, fields, held, pin, put, record, remove, rule, tell, trust, wrong
from mergedone.state import Desk


class AtTheBeginning(unittest.TestCase):
    def test_there_are_two_fields_with_rule_0(self):
        self.assertEqual(ask(rule(1, 3), rule(2, 3), rule(3, 3)), [0, 0, -3])

    def test_there_are_no_records(self):
        self.assertEqual(ask(remove(1), change(1, 1, 1), put(1, 1), record(1, 1, 1, 2, 3)), [-3, -3, -3, 1])

    def test_the_desk(self):
        self.assertEqual(held(Desk()), ([0, 0], [1, 2, 3, 4], [], 0, {}))


class Fields(unittest.TestCase):
    def test_one_to_four(self):
        for n in (1, 2, 3, 4):
            answered = ask(fields(n), *[rule(field, 4) for field in range(1, n + 2)])
            self.assertEqual(answered, [0] + [0] * n + [-3])
            row = [7] * n
            self.assertEqual(ask_last(fields(n), record(1, 1, 1, *row)), 1)
            self.assertEqual(ask_last(fields(n), record(1, 1, 1, *row[1:])), -1)
            self.assertEqual(ask_last(fields(n), record(1, 1, 1, 7, *row)), -1)

    def test_another_count_is_refused(self):
        for n in (0, 5, 6, 1000, MOST):
            self.assertEqual(ask(fields(n)), [-1])

    def test_a_refusal_leaves_all_as_it_was(self):
        for n in (0, 5, MOST):
            answered = ask(
                fields(3), rule(3, 2), record(1, 1, 4, 7, 8, 9), fields(n),
                rule(3, 1), rule(4, 1), change(1, 3, 1), put(1, 0), record(1, 1, 1, 1, 1, 1), remove(1))
            self.assertEqual(answered, [0, 0, 1, -1, 2, -3, 9, 4, 2, 1])

    def test_after_it_the_rules_are_0_and_there_are_no_records(self):
        answered = ask(
            rule(1, 3), rule(2, 4), record(1, 1, 1, 7, 8), record(1, 1, 1, 7, 8), fields(2),
            rule(1, 0), rule(2, 0), remove(1), change(2, 1, 1), put(2, 1))
        self.assertEqual(answered, [0, 0, 1, 2, 0, 0, 0, -3, -3, -3])

    def test_after_it_numbers_begin_at_1(self):
        answered = ask(
            record(1, 1, 1, 7, 8), record(1, 1, 1, 7, 8), fields(1),
            record(1, 1, 2, 5), record(1, 1, 3, 6), put(1, 0), put(2, 0), remove(2))
        self.assertEqual(answered, [1, 2, 0, 1, 2, 2, 3, 1])

    def test_after_it_there_is_room_for_twelve(self):
        calls = [record(1, 1, 1, 7, 8)] * 13 + [fields(2)] + [record(1, 1, 1, 7, 8)] * 13
        numbers = list(range(1, 13))
        self.assertEqual(ask(*calls), numbers + [-6, 0] + numbers + [-6])

    def test_nothing_is_left_on_the_desk(self):
        desk = Desk()
        tell(desk, rule(1, 4), trust(4, 3, 2, 1), record(1, 1, 1, 7, 8), wrong(1, 1), pin(1, 1, 5))
        self.assertEqual(tell(desk, fields(3)), [0])
        self.assertEqual(held(desk), ([0, 0, 0], [1, 2, 3, 4], [], 0, {}))


class Rule(unittest.TestCase):
    def test_it_answers_the_rule_that_was(self):
        self.assertEqual(ask(*[rule(1, number) for number in (4, 3, 2, 1, 0, 0)]), [0, 4, 3, 2, 1, 0])

    def test_each_field_has_its_own(self):
        answered = ask(
            fields(4), rule(1, 1), rule(2, 2), rule(3, 3), rule(4, 4),
            rule(4, 0), rule(3, 0), rule(2, 0), rule(1, 0))
        self.assertEqual(answered, [0, 0, 0, 0, 0, 4, 3, 2, 1])

    def test_no_such_field(self):
        for n in (1, 2, 3, 4):
            for field in (0, n + 1, n + 2, MOST):
                self.assertEqual(ask_last(fields(n), rule(field, 0)), -3)
            self.assertEqual(ask_last(fields(n), rule(n, 0)), 0)

    def test_a_rule_above_4(self):
        for number in (5, 6, MOST):
            self.assertEqual(ask(rule(2, 3), rule(2, number), rule(2, 0), rule(1, 0)), [0, -1, 3, 0])

    def test_no_such_field_is_told_ahead_of_the_rule(self):
        for field in (0, 3, MOST):
            for number in (5, MOST):
                answered = ask(rule(1, 1), rule(2, 2), rule(field, number), rule(1, 0), rule(2, 0))
                self.assertEqual(answered, [0, 0, -3, 1, 2])


class Trust(unittest.TestCase):
    def test_every_order_is_taken(self):
        for order in itertools.permutations((1, 2, 3, 4)):
            self.assertEqual(ask(trust(*order)), [0])
            desk = Desk()
            tell(desk, trust(2, 3, 4, 1), trust(*order))
            self.assertEqual(desk.trusted, list(order))

    def test_what_is_not_just_the_four_is_refused(self):
        rows = (
            (), (1,), (1, 2, 3), (2, 3, 4), (1, 2, 3, 3), (1, 1, 1, 1), (4, 4, 2, 1),
            (1, 2, 3, 4, 1), (1, 2, 3, 4, 5), (0, 1, 2, 3, 4), (0, 1, 2, 3), (1, 2, 3, 5), (5, 4, 3, 2),
            (1, 2, 3, 4, 1, 2, 3, 4), (1, 2, 3, MOST), (MOST,) * 8)
        for row in rows:
            desk = Desk()
            tell(desk, trust(3, 1, 4, 2), record(1, 1, 1, 7, 8))
            before = held(desk)
            self.assertEqual(tell(desk, trust(*row)), [-1], row)
            self.assertEqual(held(desk), before, row)
            self.assertEqual(ask(trust(*row)), [-1], row)

    def test_nothing_else_is_changed(self):
        answered = ask(
            rule(1, 2), record(3, 1, 4, 7, 8), trust(4, 2, 3, 1),
            rule(1, 0), rule(2, 0), change(1, 1, 0), change(1, 2, 0), put(1, 0), record(1, 1, 1, 1, 1))
        self.assertEqual(answered, [0, 1, 0, 2, 0, 7, 8, 4, 2])


if __name__ == "__main__":
    unittest.main()
