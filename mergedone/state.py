"""What a desk holds: the rules of its fields, the order of trust, its records and its pins."""

FIELDS_AT_FIRST = 2
SOURCES = (1, 2, 3, 4)


class Record:
    def __init__(self, source, time, thing, field_values):
        self.source = source
        self.time = time
        self.thing = thing
        self.field_values = list(field_values)
        self.field_wrong = [False] * len(field_values)


class Desk:
    def __init__(self):
        self.begin(FIELDS_AT_FIRST)

    def begin(self, field_count):
        self.rules = [0] * field_count
        self.trusted = list(SOURCES)
        # By their numbers, in the order in which they came, for that order is asked for.
        self.records = {}
        # Kept apart from the records, since the number of a removed one is not used again.
        self.last_number = 0
        self.pins = {}

    def has_field(self, field):
        return 1 <= field <= len(self.rules)

    def has_record(self, number):
        return number in self.records

    def file_record(self, record):
        self.last_number = self.last_number + 1
        self.records[self.last_number] = record
        return self.last_number
