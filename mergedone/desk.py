"""The calls about one desk: read one behind another from a list of numbers, answered in one list."""

from mergedone.state import Desk, MOST_THING, Record, SOURCES

FIELDS = 0
RULE = 1
TRUST = 2
RECORD = 3
REMOVE = 4
CHANGE = 5
PUT = 6
WRONG = 7
PIN = 8
ONE = 9
WHY = 10
CONFLICTS = 11
FEWEST = 12

# By a call's number: how many whole numbers follow it, ahead of its row if it has one.
PLAIN_NUMBERS = (1, 2, 0, 3, 1, 3, 2, 2, 3, 1, 2, 1, 2, 0)

MOST_FIELDS = 4
MOST_RULE = 4
MOST_TIME = 1000000
MOST_VALUE = 1000
MOST_RECORDS = 12

NOT_AS_TOLD = -1
NONE_SUCH = -3
NOTHING_SAID = -5
FULL = -6

# How the one record comes to a value.
BY_NOTHING = 0
BY_CHOICE = 1
BY_PIN = 2


def set_fields(desk, field_count):
    if not 1 <= field_count <= MOST_FIELDS:
        return NOT_AS_TOLD
    desk.begin(field_count)
    return 0


def set_rule(desk, field, rule):
    if not desk.has_field(field):
        return NONE_SUCH
    if rule > MOST_RULE:
        return NOT_AS_TOLD
    earlier = desk.rules[field - 1]
    desk.rules[field - 1] = rule
    return earlier


def set_trust(desk, sources):
    if sorted(sources) != list(SOURCES):
        return NOT_AS_TOLD
    desk.trusted = list(sources)
    return 0


def fits_desk(desk, record):
    if record.source not in SOURCES or record.thing > MOST_THING or record.time > MOST_TIME:
        return False
    if len(record.field_values) != len(desk.rules):
        return False
    return all([value <= MOST_VALUE for value in record.field_values])


def add_record(desk, record):
    if not fits_desk(desk, record):
        return NOT_AS_TOLD
    if len(desk.records) >= MOST_RECORDS:
        return FULL
    return desk.file_record(record)


def remove_record(desk, number):
    if not desk.has_record(number):
        return NONE_SUCH
    desk.records.pop(number)
    return len(desk.records)


def change_value(desk, number, field, value):
    if not desk.has_record(number) or not desk.has_field(field):
        return NONE_SUCH
    if value > MOST_VALUE:
        return NOT_AS_TOLD
    record = desk.records[number]
    earlier = record.field_values[field - 1]
    record.field_values[field - 1] = value
    record.field_wrong[field - 1] = False
    return earlier


def put_record(desk, number, thing):
    if not desk.has_record(number):
        return NONE_SUCH
    if thing > MOST_THING:
        return NOT_AS_TOLD
    record = desk.records[number]
    earlier = record.thing
    record.thing = thing
    return earlier


def turn_wrong(desk, number, field):
    if not desk.has_record(number) or not desk.has_field(field):
        return NONE_SUCH
    record = desk.records[number]
    record.field_wrong[field - 1] = not record.field_wrong[field - 1]
    return 1 if record.field_wrong[field - 1] else 0


def set_pin(desk, thing, field, value):
    if not desk.has_thing(thing) or not desk.has_field(field):
        return NONE_SUCH
    if value > MOST_VALUE:
        return NOT_AS_TOLD
    earlier = desk.pins.get((thing, field), 0)
    if value != 0:
        desk.pins[(thing, field)] = value
    elif earlier != 0:
        desk.pins.pop((thing, field))
    return earlier


def one_field(desk, thing, field):
    if (thing, field) in desk.pins:
        return [BY_PIN, desk.pins[(thing, field)]]
    value = desk.chosen(field, desk.numbers_saying(thing, field))
    if value == 0:
        return [BY_NOTHING, 0]
    return [BY_CHOICE, value]


def tell_one(desk, thing):
    if not desk.has_thing(thing):
        return [NONE_SUCH]
    told = [len(desk.numbers_of(thing))]
    for field in range(1, len(desk.rules) + 1):
        told.extend(one_field(desk, thing, field))
    return told


# A record whose value is not known says nothing, so none says the 0 of a field without a value.
def tell_why(desk, thing, field):
    if not desk.has_thing(thing) or not desk.has_field(field):
        return [NONE_SUCH]
    value = one_field(desk, thing, field)[1]
    saying = desk.numbers_saying(thing, field)
    numbers = [number for number in saying if desk.records[number].says(field) == value]
    return [len(numbers)] + numbers


def tell_conflicts(desk, thing):
    if not desk.has_thing(thing):
        return [NONE_SUCH]
    told = []
    for field in range(1, len(desk.rules) + 1):
        spoken = desk.values_said(field, desk.numbers_saying(thing, field))
        told.append(len(set(spoken)))
    return told


def tell_fewest(desk, thing, field):
    if not desk.has_thing(thing) or not desk.has_field(field):
        return [NONE_SUCH]
    numbers = desk.numbers_saying(thing, field)
    if len(numbers) == 0:
        return [NOTHING_SAID]
    gone = desk.fewest_to_go(field, numbers)
    return [len(gone)] + gone


def tell_counts(desk):
    return [len(desk.rules)] + desk.rules + desk.trusted + [len(desk.records), len(desk.pins)]


def call_end(calls, start):
    kind = calls[start]
    end = start + 1 + PLAIN_NUMBERS[kind]
    if kind == TRUST or kind == RECORD:
        end = end + 1 + calls[end]
    return end


# A row is taken from one place further on, since its count lies ahead of it.
def answer(desk, call):
    kind = call[0]
    if kind == FIELDS:
        return [set_fields(desk, call[1])]
    if kind == RULE:
        return [set_rule(desk, call[1], call[2])]
    if kind == TRUST:
        return [set_trust(desk, call[2:])]
    if kind == RECORD:
        return [add_record(desk, Record(call[1], call[2], call[3], call[5:]))]
    if kind == REMOVE:
        return [remove_record(desk, call[1])]
    if kind == CHANGE:
        return [change_value(desk, call[1], call[2], call[3])]
    if kind == PUT:
        return [put_record(desk, call[1], call[2])]
    if kind == WRONG:
        return [turn_wrong(desk, call[1], call[2])]
    if kind == PIN:
        return [set_pin(desk, call[1], call[2], call[3])]
    if kind == ONE:
        return tell_one(desk, call[1])
    if kind == WHY:
        return tell_why(desk, call[1], call[2])
    if kind == CONFLICTS:
        return tell_conflicts(desk, call[1])
    if kind == FEWEST:
        return tell_fewest(desk, call[1], call[2])
    # A call of another number has no length in PLAIN_NUMBERS: only counts, 13, is left here.
    return tell_counts(desk)


def answers(calls):
    desk = Desk()
    given = []
    start = 0
    while start < len(calls):
        end = call_end(calls, start)
        answered = answer(desk, calls[start:end])
        given.append(len(answered))
        given.extend(answered)
        start = end
    return given
