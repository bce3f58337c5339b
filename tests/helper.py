"""Calls written as words, their answers taken apart again, and what a desk holds as plain values."""

import unittest

from mergedone.desk import answer, answers
from mergedone.state import Desk

MOST = 4294967295


def fields(n):
    return [0, n]


def rule(field, rule_number):
    return [1, field, rule_number]


def trust(*sources):
    return [2, len(sources), *sources]


def record(source, time, thing, *row):
    return [3, source, time, thing, len(row), *row]


def remove(number):
    return [4, number]


def change(number, field, value):
    return [5, number, field, value]


def put(number, thing):
    return [6, number, thing]


def wrong(number, field):
    return [7, number, field]


def pin(thing, field, value):
    return [8, thing, field, value]


def one(thing):
    return [9, thing]


def why(thing, field):
    return [10, thing, field]


def conflicts(thing):
    return [11, thing]


def fewest(thing, field):
    return [12, thing, field]


def counts():
    return [13]


def taken_apart(given):
    """The answers of the calls, a list each, from the one list."""
    apart = []
    at = 0
    while at < len(given):
        count = given[at]
        if count < 1 or at + 1 + count > len(given):
            raise AssertionError(f"a wrong count at {at} of {given}")
        apart.append(given[at + 1:at + 1 + count])
        at += 1 + count
    return apart


def ask_lists(*calls):
    """What is answered of these calls, a list for each."""
    apart = taken_apart(answers([number for call in calls for number in call]))
    if len(apart) != len(calls):
        raise AssertionError(f"not an answer a call: {apart}")
    for answered in apart:
        if any(type(number) is not int for number in answered):
            raise AssertionError(f"not whole numbers: {answered!r}")
        if min(answered) < 0 and len(answered) > 1:
            raise AssertionError(f"a refusal is not alone: {answered!r}")
    return apart


def ask(*calls):
    """What is answered of these calls, where each is answered with one number."""
    apart = ask_lists(*calls)
    if any(len(answered) != 1 for answered in apart):
        raise AssertionError(f"not one number a call: {apart}")
    return [answered[0] for answered in apart]


def ask_last_list(*calls):
    return ask_lists(*calls)[-1]


def ask_last(*calls):
    return ask(*calls)[-1]


def tell(desk, *calls):
    """What is answered of these calls about a desk that is there already."""
    return [answer(desk, call)[0] for call in calls]


def held(desk):
    records = [
        (number, kept.source, kept.time, kept.thing, list(kept.field_values), list(kept.field_wrong))
        for number, kept in desk.records.items()
    ]
    return (list(desk.rules), list(desk.trusted), records, desk.last_number, dict(desk.pins))


def a_desk():
    """A desk on which nothing is as at the beginning; its records are 1, 3 and 4."""
    desk = Desk()
    tell(
        desk, fields(3), rule(1, 4), rule(2, 1), rule(3, 2), trust(2, 4, 1, 3),
        record(1, 5, 1, 10, 20, 30), record(2, 6, 2, 1, 1, 1),
        record(3, 7, 0, 0, 1000, 40), record(4, 1000000, 4, 11, 21, 31), remove(2),
        wrong(1, 2), wrong(3, 1), pin(1, 2, 77))
    return desk


class Refusals(unittest.TestCase):
    def refused(self, desk, call, number):
        before = held(desk)
        self.assertEqual(answer(desk, call), [number], call)
        self.assertEqual(held(desk), before, call)
