"""What a desk holds (rules, the order of trust, records, pins), and what is chosen from its records."""

FIELDS_AT_FIRST = 2
SOURCES = (1, 2, 3, 4)
MOST_THING = 4

MOST_TRUSTED = 1
MOST_COMMON = 2
GREATEST = 3
LEAST = 4


class Record:
    def __init__(self, source, time, thing, field_values):
        self.source = source
        self.time = time
        self.thing = thing
        self.field_values = list(field_values)
        self.field_wrong = [False] * len(field_values)

    # 0 if it says nothing: that is never a value that is said.
    def says(self, field):
        if self.field_wrong[field - 1]:
            return 0
        return self.field_values[field - 1]


class Desk:
    def __init__(self):
        self.begin(FIELDS_AT_FIRST)

    def begin(self, field_count):
        self.rules = [0] * field_count
        self.trusted = list(SOURCES)
        # By their numbers, in the order in which they came, for that order is asked for.
        self.records = {}
        # Kept apart from the records, since the number of a removed one is not used again.
        self.last_number = 0
        # By thing and field; where nothing is pinned, there is no key, so that the pins can be counted.
        self.pins = {}

    def has_field(self, field):
        return 1 <= field <= len(self.rules)

    def has_thing(self, thing):
        return 1 <= thing <= MOST_THING

    def has_record(self, number):
        return number in self.records

    def file_record(self, record):
        self.last_number = self.last_number + 1
        self.records[self.last_number] = record
        return self.last_number

    def numbers_of(self, thing):
        return [number for number in self.records if self.records[number].thing == thing]

    def numbers_saying(self, thing, field):
        return [number for number in self.numbers_of(thing) if self.records[number].says(field) != 0]

    def values_said(self, field, numbers):
        return [self.records[number].says(field) for number in numbers]

    # Of two records that with the lesser place goes ahead; spoken is what all of them say.
    def place(self, field, number, spoken):
        record = self.records[number]
        value = record.says(field)
        distrust = self.trusted.index(record.source)
        rule = self.rules[field - 1]
        if rule == MOST_TRUSTED:
            return (distrust, -record.time, value)
        if rule == MOST_COMMON:
            return (-spoken.count(value), -record.time, distrust, value)
        if rule == GREATEST:
            return (-value,)
        if rule == LEAST:
            return (value,)
        return (-record.time, distrust, value)

    def leader(self, field, numbers):
        spoken = self.values_said(field, numbers)
        return min(numbers, key=lambda number: self.place(field, number, spoken))

    # The numbers are of records that say something; 0 if there are none of them.
    def chosen(self, field, numbers):
        if len(numbers) == 0:
            return 0
        return self.records[self.leader(field, numbers)].says(field)

    # The leaders have to go: with others gone in their place, what stays of the value would lie further ahead.
    def leaders_to_go(self, field, numbers, value):
        kept = list(numbers)
        while self.chosen(field, kept) == value:
            kept.remove(self.leader(field, kept))
        return len(numbers) - len(kept)

    # The earliest are tried first, and each goes only if fewer are still to go then: so all that go are needed.
    def fewest_to_go(self, field, numbers):
        value = self.chosen(field, numbers)
        kept = list(numbers)
        still = self.leaders_to_go(field, kept, value)
        gone = []
        for number in numbers:
            rest = [other for other in kept if other != number]
            if self.leaders_to_go(field, rest, value) < still:
                gone.append(number)
                kept = rest
                still = still - 1
        return gone
