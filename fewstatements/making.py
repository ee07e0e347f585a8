"""Statements that are made, if they can be, on rows that are changed in place."""

from fewstatements.rules import row_breach
from fewstatements.schema import MOST_ROWS
from fewstatements.statements import INSERT, UPDATE


def copied_rows(rows):
    return [dict(table_rows) for table_rows in rows]


def make(tables, rows, statement):
    """Makes the statement and tells that; or changes nothing, if it can't be made."""
    if statement.kind == INSERT:
        return make_insert(tables, rows, statement)
    if statement.kind == UPDATE:
        return make_update(tables, rows, statement)
    return make_delete(tables, rows, statement)


def make_insert(tables, rows, statement):
    table_rows = rows[statement.table]
    if statement.ident in table_rows or len(table_rows) >= MOST_ROWS:
        return False
    # The row must be in place when its rules are looked at: it may refer to itself.
    table_rows[statement.ident] = tuple([pair[1] for pair in statement.pairs])
    if row_breach(tables, rows, statement.table, statement.ident) is None:
        return True
    table_rows.pop(statement.ident)
    return False


def make_update(tables, rows, statement):
    table_rows = rows[statement.table]
    if statement.ident not in table_rows:
        return False
    before = table_rows[statement.ident]
    values = list(before)
    for pair in statement.pairs:
        values[pair[0]] = pair[1]
    table_rows[statement.ident] = tuple(values)
    if row_breach(tables, rows, statement.table, statement.ident) is None:
        return True
    table_rows[statement.ident] = before
    return False


def make_delete(tables, rows, statement):
    table_rows = rows[statement.table]
    if statement.ident not in table_rows or is_referred_to(tables, rows, statement.table, statement.ident):
        return False
    table_rows.pop(statement.ident)
    return True


def is_referred_to(tables, rows, target, ident):
    """Whether another row refers to this one."""
    for number, table in enumerate(tables):
        for place, column in enumerate(table.columns):
            if column.is_reference and column.target == target:
                referring = [other for other, values in rows[number].items() if values[place] == ident]
                if any([number != target or other != ident for other in referring]):
                    return True
    return False
