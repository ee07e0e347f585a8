"""Statements that were handed in: read from numbers, and checked."""

from fewstatements.making import copied_rows, make
from fewstatements.rows import Cursor, NotOfForm, read_values
from fewstatements.schema import GREATEST_IDENT, GREATEST_VALUE, LEAST_VALUE, MOST_COLUMNS
from fewstatements.statements import DELETE, INSERT, UPDATE, Statement

MOST_STATEMENTS = 40

CHECKED = 0
CANNOT_BE_MADE = 1
NOT_AS_WISHED = 2


def read_statements(tables, numbers):
    """The statements that the numbers tell."""
    cursor = Cursor(numbers)
    statements = []
    while not cursor.is_done():
        if len(statements) == MOST_STATEMENTS:
            raise NotOfForm()
        statements.append(read_statement(tables, cursor))
    return statements


def read_statement(tables, cursor):
    kind = cursor.take_from(INSERT, DELETE)
    table = cursor.take_from(0, len(tables) - 1)
    ident = cursor.take_from(1, GREATEST_IDENT)
    width = len(tables[table].columns)
    pairs = []
    if kind == INSERT:
        pairs = list(enumerate(read_values(cursor, width)))
    elif kind == UPDATE:
        pairs = read_pairs(cursor, width)
    return Statement(kind, table, ident, pairs)


def read_pairs(cursor, width):
    """Columns, none of them twice, and their values."""
    pairs = []
    for turn in range(cursor.take_from(0, MOST_COLUMNS)):
        place = cursor.take_from(0, width - 1)
        if place in [pair[0] for pair in pairs]:
            raise NotOfForm()
        pairs.append((place, cursor.take_from(LEAST_VALUE, GREATEST_VALUE)))
    return pairs


def checked(tables, now, wished, statements):
    """The numbers that tell whether each statement can be made, and whether the rows are as wished then."""
    rows = copied_rows(now)
    for number, statement in enumerate(statements):
        if not make(tables, rows, statement):
            return [CANNOT_BE_MADE, number]
    if rows != wished:
        return [NOT_AS_WISHED]
    return [CHECKED]
