"""The program beside a second one, which goes by the document's words step by step, over many lists of calls."""

import itertools
import unittest

from helper import MOST, taken_apart
from mergedone.desk import answers


class ByTheWords:
    def __init__(self):
        self.fields(2)

    def fields(self, n):
        if not 1 <= n <= 4:
            return [-1]
        self.rules = {field: 0 for field in range(1, n + 1)}
        self.order = [1, 2, 3, 4]
        self.papers = []
        self.used = 0
        self.pinned = {}
        return [0]

    def rule(self, field, number):
        if field not in self.rules:
            return [-3]
        if number > 4:
            return [-1]
        was = self.rules[field]
        self.rules[field] = number
        return [was]

    def trust(self, sources):
        if tuple(sources) not in itertools.permutations((1, 2, 3, 4)):
            return [-1]
        self.order = sources
        return [0]

    def record(self, source, time, thing, row):
        if not 1 <= source <= 4 or thing > 4 or time > 1000000:
            return [-1]
        if len(row) != len(self.rules) or max(row) > 1000:
            return [-1]
        if len(self.papers) == 12:
            return [-6]
        self.used += 1
        self.papers.append({
            "number": self.used, "source": source, "time": time, "thing": thing,
            "row": dict(zip(self.rules, row)), "wrong": set()})
        return [self.used]

    def paper(self, number):
        for paper in self.papers:
            if paper["number"] == number:
                return paper
        return None

    def remove(self, number):
        if self.paper(number) is None:
            return [-3]
        self.papers.remove(self.paper(number))
        return [len(self.papers)]

    def change(self, number, field, value):
        paper = self.paper(number)
        if paper is None or field not in self.rules:
            return [-3]
        if value > 1000:
            return [-1]
        was = paper["row"][field]
        paper["row"][field] = value
        paper["wrong"].discard(field)
        return [was]

    def put(self, number, thing):
        paper = self.paper(number)
        if paper is None:
            return [-3]
        if thing > 4:
            return [-1]
        was = paper["thing"]
        paper["thing"] = thing
        return [was]

    def wrong(self, number, field):
        paper = self.paper(number)
        if paper is None or field not in self.rules:
            return [-3]
        paper["wrong"] ^= {field}
        return [len(paper["wrong"] & {field})]

    def pin(self, thing, field, value):
        if thing not in (1, 2, 3, 4) or field not in self.rules:
            return [-3]
        if value > 1000:
            return [-1]
        was = self.pinned.get((thing, field), 0)
        self.pinned[(thing, field)] = value
        return [was]

    def sayers(self, thing, field):
        return [
            paper for paper in self.papers
            if paper["thing"] == thing and paper["row"][field] != 0 and field not in paper["wrong"]]

    def ahead_by_rule_0(self, field, left, right):
        if left["time"] != right["time"]:
            return left["time"] > right["time"]
        if left["source"] != right["source"]:
            return self.order.index(left["source"]) < self.order.index(right["source"])
        return left["row"][field] < right["row"][field]

    def ahead(self, field, left, right, sayers):
        number = self.rules[field]
        if number == 0:
            return self.ahead_by_rule_0(field, left, right)
        if number == 1:
            if left["source"] != right["source"]:
                return self.order.index(left["source"]) < self.order.index(right["source"])
            return self.ahead_by_rule_0(field, left, right)
        if number == 2:
            left_many = sum(1 for paper in sayers if paper["row"][field] == left["row"][field])
            right_many = sum(1 for paper in sayers if paper["row"][field] == right["row"][field])
            if left_many != right_many:
                return left_many > right_many
            return self.ahead_by_rule_0(field, left, right)
        if number == 3:
            return left["row"][field] > right["row"][field]
        return left["row"][field] < right["row"][field]

    def chosen(self, field, sayers):
        first = [
            paper["row"][field] for paper in sayers
            if not any(self.ahead(field, other, paper, sayers) for other in sayers)]
        if not sayers:
            return None
        assert len(set(first)) == 1, first
        return first[0]

    def merged(self, thing, field):
        if self.pinned.get((thing, field), 0):
            return [2, self.pinned[(thing, field)]]
        value = self.chosen(field, self.sayers(thing, field))
        return [0, 0] if value is None else [1, value]

    def one(self, thing):
        if thing not in (1, 2, 3, 4):
            return [-3]
        told = [sum(1 for paper in self.papers if paper["thing"] == thing)]
        for field in self.rules:
            told += self.merged(thing, field)
        return told

    def why(self, thing, field):
        if thing not in (1, 2, 3, 4) or field not in self.rules:
            return [-3]
        value = self.merged(thing, field)[1]
        numbers = [paper["number"] for paper in self.sayers(thing, field) if paper["row"][field] == value]
        return [len(numbers), *numbers]

    def conflicts(self, thing):
        if thing not in (1, 2, 3, 4):
            return [-3]
        return [len({paper["row"][field] for paper in self.sayers(thing, field)}) for field in self.rules]

    def fewest(self, thing, field):
        if thing not in (1, 2, 3, 4) or field not in self.rules:
            return [-3]
        sayers = self.sayers(thing, field)
        if not sayers:
            return [-5]
        value = self.chosen(field, sayers)
        for count in range(1, len(sayers) + 1):
            # Combinations come in just the order that is asked for: the earlier at the first that differs.
            for gone in itertools.combinations(range(len(sayers)), count):
                left = [sayers[place] for place in range(len(sayers)) if place not in gone]
                if self.chosen(field, left) != value:
                    return [count, *[sayers[place]["number"] for place in gone]]
        raise AssertionError("with all gone nothing is chosen")

    def counts(self):
        pins = sum(1 for value in self.pinned.values() if value)
        return [len(self.rules), *self.rules.values(), *self.order, len(self.papers), pins]


NAMES = (
    "fields", "rule", "trust", "record", "remove", "change", "put", "wrong", "pin", "one", "why", "conflicts",
    "fewest", "counts")


class Chance:
    """The same numbers each time."""

    def __init__(self, seed):
        self.state = seed * 2654435761 % 4294967296

    def below(self, limit):
        self.state = (self.state * 6364136223846793005 + 1442695040888963407) % 2 ** 64
        return (self.state >> 33) % limit

    def of(self, *choices):
        return choices[self.below(len(choices))]

    def seldom(self, often, *seldom):
        return self.of(*seldom) if self.below(25) == 0 else often


def a_thing(chance):
    return chance.seldom(chance.of(1, 1, 1, 2, 4), 0, 5, MOST)


def a_field(chance, n):
    return chance.seldom(1 + chance.below(n), 0, n + 1, MOST)


def a_value(chance):
    return chance.seldom(chance.of(0, 3, 3, 3, 4, 4, 5), 1000, 1001, MOST)


def a_number(chance):
    return chance.seldom(1 + chance.below(14), 0, MOST)


def a_record(chance, n):
    row = [a_value(chance) for _ in range(chance.seldom(n, 0, n + 1, n - 1))]
    source = chance.seldom(1 + chance.below(4), 0, 5, MOST)
    time = chance.seldom(chance.below(3), 1000000, 1000001)
    return ["record", [source, time, chance.seldom(chance.of(1, 1, 1, 1, 0, 2), 5, MOST)], row]


def a_trust(chance):
    order = [1, 2, 3, 4]
    for place in (3, 2, 1):
        other = chance.below(place + 1)
        order[place], order[other] = order[other], order[place]
    return ["trust", [], chance.seldom(order, [1, 2, 3], [1, 2, 3, 3], [])]


def another_call(chance, n):
    name = chance.of(
        "rule", "trust", "remove", "change", "put", "wrong", "wrong", "pin", "one", "one", "why", "why", "conflicts",
        "fewest", "fewest", "fewest", "counts", "record", "record")
    if name == "rule":
        return [name, [a_field(chance, n), chance.seldom(chance.below(5), 5, MOST)], None]
    if name == "trust":
        return a_trust(chance)
    if name == "record":
        return a_record(chance, n)
    if name == "remove":
        return [name, [a_number(chance)], None]
    if name == "change":
        return [name, [a_number(chance), a_field(chance, n), a_value(chance)], None]
    if name == "put":
        return [name, [a_number(chance), chance.seldom(chance.of(0, 1, 1, 2), 5, MOST)], None]
    if name == "wrong":
        return [name, [a_number(chance), a_field(chance, n)], None]
    if name == "pin":
        return [name, [a_thing(chance), a_field(chance, n), a_value(chance)], None]
    if name in ("one", "conflicts"):
        return [name, [a_thing(chance)], None]
    if name in ("why", "fewest"):
        return [name, [a_thing(chance), a_field(chance, n)], None]
    return [name, [], None]


def a_list_of_calls(chance):
    n = 1 + chance.below(4)
    calls = [["fields", [n], None], a_trust(chance)]
    calls += [["rule", [field, chance.below(5)], None] for field in range(1, n + 1)]
    calls += [a_record(chance, n) for _ in range(chance.below(12))]
    while len(calls) < 60:
        calls.append(another_call(chance, n))
    return calls


def as_numbers(calls):
    numbers = []
    for name, plain, row in calls:
        numbers += [NAMES.index(name), *plain]
        if row is not None:
            numbers += [len(row), *row]
    return numbers


def by_the_words(calls):
    desk = ByTheWords()
    told = []
    for name, plain, row in calls:
        told.append(getattr(desk, name)(*plain) if row is None else getattr(desk, name)(*plain, row))
    return told


class BesideTheWords(unittest.TestCase):
    def test_many_lists_of_sixty_calls(self):
        for seed in range(150):
            calls = a_list_of_calls(Chance(seed))
            numbers = as_numbers(calls)
            before = list(numbers)
            given = answers(numbers)
            self.assertEqual(numbers, before)
            for call, told, asked in zip(calls, by_the_words(calls), taken_apart(given), strict=True):
                self.assertEqual(asked, told, (seed, call))

    def test_fewest_of_all_small_heaps(self):
        kinds = [(source, time, value) for source in (1, 2) for time in (0, 1) for value in (3, 4)]
        for rule_number in range(5):
            for count in (1, 2, 3, 4):
                for rows in itertools.product(kinds, repeat=count):
                    calls = [["fields", [1], None], ["trust", [], [2, 1, 4, 3]], ["rule", [1, rule_number], None]]
                    calls += [["record", [source, time, 1], [value]] for source, time, value in rows]
                    calls += [["fewest", [1, 1], None], ["one", [1], None], ["why", [1, 1], None]]
                    self.assertEqual(taken_apart(answers(as_numbers(calls))), by_the_words(calls), calls)


if __name__ == "__main__":
    unittest.main()
