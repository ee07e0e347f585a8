"""The calls on one object, one behind another, and their answers."""

from fewstatements.faults import Fault
from fewstatements.reading import read_schema
from fewstatements.rows import NotOfForm, no_rows, read_rows, told_rows
from fewstatements.rules import first_breach
from fewstatements.statements import changed_rows, direct_statements, told_statements
from fewstatements.writing import written_schema

LOAD = 0
WRITTEN = 1
FILL = 2
WISH = 3
TABLES = 4
CHANGED = 5
DIRECT = 6

DONE = 0
NOT_DONE = 1

NO_BYTE = -1
TEXT_TOO_LONG = -2
ROWS_NOT_OF_FORM = -4

GREATEST_BYTE = 255
LONGEST_TEXT = 4096


class UnknownCall(Exception):
    """A number that no call has."""


class Held:
    """A schema's tables, their rows now, and their rows as wished.

    Rows are never changed in place, so now and wished may be the same ones.
    """

    def __init__(self):
        self.schema = []
        self.now = []
        self.wished = []


def answers(calls):
    """The answers of all calls, in order, each behind how many numbers it has."""
    held = Held()
    told = []
    place = 0
    while place < len(calls):
        call = calls[place]
        place += 1
        if call in (LOAD, FILL, WISH):
            end = place + 1 + calls[place]
            answer = answer_with_list(held, call, calls[place + 1:end])
            place = end
        else:
            answer = answer_alone(held, call)
        told.append(len(answer))
        told.extend(answer)
    return told


def answer_with_list(held, call, numbers):
    if call == LOAD:
        return answer_load(held, numbers)
    return answer_rows(held, call, numbers)


def answer_alone(held, call):
    if call == WRITTEN:
        return [DONE] + written_schema(held.schema)
    if call == TABLES:
        return [DONE] + told_rows(held.now) + told_rows(held.wished)
    if call == CHANGED:
        return answer_changed(held)
    if call == DIRECT:
        return [DONE] + told_statements(direct_statements(held.now, held.wished))
    raise UnknownCall()


def answer_load(held, text):
    if not all([0 <= number <= GREATEST_BYTE for number in text]):
        return [NO_BYTE]
    if len(text) > LONGEST_TEXT:
        return [TEXT_TOO_LONG]
    try:
        schema = read_schema(text)
    except Fault as fault:
        return [NOT_DONE, fault.kind, fault.place]
    held.schema = schema
    held.now = no_rows(schema)
    held.wished = no_rows(schema)
    return [DONE, len(schema), sum([len(table.columns) for table in schema])]


def answer_rows(held, call, numbers):
    """What fill and wish answer."""
    try:
        rows = read_rows(held.schema, numbers)
    except NotOfForm:
        return [ROWS_NOT_OF_FORM]
    breach = first_breach(held.schema, rows)
    if breach is not None:
        return [NOT_DONE] + list(breach)
    held.wished = rows
    if call == FILL:
        held.now = rows
    return [DONE]


def answer_changed(held):
    changed = changed_rows(held.now, held.wished)
    told = [DONE, len(changed)]
    for row in changed:
        told.extend(row)
    return told
