"""The calls on one object, one behind another, and their answers."""

from fewstatements.checking import checked, read_statements
from fewstatements.faults import Fault
from fewstatements.planning import best_outcome, is_split, made_first, splittable
from fewstatements.reading import read_schema
from fewstatements.rows import NotOfForm, no_rows, read_rows, told_rows
from fewstatements.rules import first_breach
from fewstatements.statements import changed_rows, direct_statements, raw_statements, told_changed, told_statements
from fewstatements.steps import all_ways
from fewstatements.writing import written_schema

LOAD = 0
WRITTEN = 1
FILL = 2
WISH = 3
TABLES = 4
CHANGED = 5
DIRECT = 6
PLAN = 7
FIRST = 8
CHECK = 9
RAW = 10
FLUSH = 11
SIZE = 12

DONE = 0
NOT_DONE = 1

NO_BYTE = -1
TEXT_TOO_LONG = -2
ROWS_NOT_OF_FORM = -4
STATEMENTS_NOT_OF_FORM = -7
TOO_MANY_CHANGED = -10
NO_SPLIT = -12

GREATEST_BYTE = 255
LONGEST_TEXT = 4096
MOST_PLANNED = 8


class UnknownCall(Exception):
    """A number that no call has."""


class Held:
    """A schema's tables, their rows now, and their rows as wished.

    The rows held here are never changed in place, so now and wished may be the same ones.
    """

    def __init__(self):
        self.schema = []
        self.now = []
        self.wished = []


def answers(calls):
    """The answers of all calls, in order, each behind how many numbers it has."""
    held = Held()
    told = []
    place = 0
    while place < len(calls):
        call = calls[place]
        place += 1
        if call in (LOAD, FILL, WISH, FIRST, CHECK):
            end = place + 1 + calls[place]
            answer = answer_with_list(held, call, calls[place + 1:end])
            place = end
        else:
            answer = answer_alone(held, call)
        told.append(len(answer))
        told.extend(answer)
    return told


def answer_with_list(held, call, numbers):
    if call == LOAD:
        return answer_load(held, numbers)
    if call == FIRST:
        return answer_first(held, numbers)
    if call == CHECK:
        return answer_check(held, numbers)
    return answer_rows(held, call, numbers)


def answer_alone(held, call):
    if call == WRITTEN:
        return [DONE] + written_schema(held.schema)
    if call == TABLES:
        return [DONE] + told_rows(held.now) + told_rows(held.wished)
    if call == CHANGED:
        return [DONE] + told_changed(changed_rows(held.now, held.wished))
    if call == DIRECT:
        return [DONE] + told_statements(direct_statements(held.now, held.wished))
    if call == PLAN:
        return answer_plan(held)
    if call == RAW:
        return [DONE] + told_statements(raw_statements(held.now, held.wished))
    if call == FLUSH:
        return answer_flush(held)
    if call == SIZE:
        return answer_size(held)
    raise UnknownCall()


def answer_load(held, text):
    if not all([0 <= number <= GREATEST_BYTE for number in text]):
        return [NO_BYTE]
    if len(text) > LONGEST_TEXT:
        return [TEXT_TOO_LONG]
    try:
        schema = read_schema(text)
    except Fault as fault:
        return [NOT_DONE, fault.kind, fault.place]
    held.schema = schema
    held.now = no_rows(schema)
    held.wished = no_rows(schema)
    return [DONE, len(schema), sum([len(table.columns) for table in schema])]


def answer_rows(held, call, numbers):
    """What fill and wish answer."""
    try:
        rows = read_rows(held.schema, numbers)
    except NotOfForm:
        return [ROWS_NOT_OF_FORM]
    breach = first_breach(held.schema, rows)
    if breach is not None:
        return [NOT_DONE] + list(breach)
    held.wished = rows
    if call == FILL:
        held.now = rows
    return [DONE]


def answer_plan(held):
    ways = all_ways(held.schema, held.now, held.wished)
    if len(ways) > MOST_PLANNED:
        return [TOO_MANY_CHANGED]
    outcome = best_outcome(held.schema, held.now, ways)
    if outcome.left != []:
        return [NOT_DONE] + told_changed([ways[number].changed for number in outcome.left])
    return [DONE, len(outcome.chosen)] + outcome.chosen + told_statements(outcome.made)


def answer_first(held, split):
    ways = all_ways(held.schema, held.now, held.wished)
    if len(ways) > MOST_PLANNED:
        return [TOO_MANY_CHANGED]
    if not is_split(ways, split):
        return [NO_SPLIT]
    outcome = made_first(held.schema, held.now, ways, split)
    first_number = DONE if outcome.left == [] else NOT_DONE
    return [first_number] + told_statements(outcome.made) + outcome.left


def answer_check(held, numbers):
    try:
        statements = read_statements(held.schema, numbers)
    except NotOfForm:
        return [STATEMENTS_NOT_OF_FORM]
    return checked(held.schema, held.now, held.wished, statements)


def answer_flush(held):
    ways = all_ways(held.schema, held.now, held.wished)
    if len(ways) > MOST_PLANNED:
        return [TOO_MANY_CHANGED]
    outcome = best_outcome(held.schema, held.now, ways)
    if outcome.left != []:
        return [NOT_DONE]
    held.now = held.wished
    return [DONE, len(outcome.made)]


def answer_size(held):
    ways = all_ways(held.schema, held.now, held.wished)
    return [DONE, len(ways), len(splittable(ways))]
