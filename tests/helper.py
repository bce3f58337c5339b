"""Calls written as words, their answers taken apart again, and what a desk holds as plain values."""

from mergedone.desk import answer, answers

MOST = 4294967295


def fields(n):
    return [0, n]


def rule(field, rule_number):
    return [1, field, rule_number]


def trust(*sources):
    return [2, len(sources), *sources]


def record(source, time, thing, *row):
    return [3, source, time, thing, len(row), *row]


def remove(number):
    return [4, number]


def change(number, field, value):
    return [5, number, field, value]


def put(number, thing):
    return [6, number, thing]


def taken_apart(given):
    """The answers of the calls, a list each, from the one list."""
    apart = []
    at = 0
    while at < len(given):
        count = given[at]
        if count < 1 or at + 1 + count > len(given):
            raise AssertionError(f"a wrong count at {at} of {given}")
        apart.append(given[at + 1:at + 1 + count])
        at += 1 + count
    return apart


def ask(*calls):
    """What is answered of these calls, where each is answered with one number."""
    apart = taken_apart(answers([number for call in calls for number in call]))
    if len(apart) != len(calls) or any(len(answered) != 1 for answered in apart):
        raise AssertionError(f"not one number a call: {apart}")
    for answered in apart:
        if type(answered[0]) is not int:
            raise AssertionError(f"not a whole number: {answered[0]!r}")
    return [answered[0] for answered in apart]


def ask_last(*calls):
    return ask(*calls)[-1]


def tell(desk, *calls):
    """What is answered of these calls about a desk that is there already."""
    return [answer(desk, call)[0] for call in calls]


def held(desk):
    records = [
        (number, one.source, one.time, one.thing, list(one.field_values), list(one.field_wrong))
        for number, one in desk.records.items()
    ]
    return (list(desk.rules), list(desk.trusted), records, desk.last_number, dict(desk.pins))
