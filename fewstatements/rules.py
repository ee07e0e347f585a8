"""The rules that a value may break."""

from fewstatements.schema import NONE

NO_RULE = 0
OUT_OF_RANGE = 2
NO_SUCH_ROW = 3
NOT_UNIQUE = 4


def first_breach(tables, rows):
    """The rule, table, id and column of the first row that breaks one; None if the rows are good."""
    for number in range(len(tables)):
        for ident in sorted(rows[number]):
            breach = row_breach(tables, rows, number, ident)
            if breach is not None:
                return breach
    return None


def row_breach(tables, rows, number, ident):
    """The first rule that this row breaks, told likewise, or None."""
    for place, column in enumerate(tables[number].columns):
        rule = broken_rule(column, place, rows, number, ident)
        if rule != NO_RULE:
            return (rule, number, ident, place)
    return None


def broken_rule(column, place, rows, number, ident):
    value = rows[number][ident][place]
    if column.is_reference:
        if not may_refer(column, rows, value):
            return NO_SUCH_ROW
    elif value < column.least or value > column.greatest:
        return OUT_OF_RANGE
    if column.is_unique and is_taken(column, place, rows[number], ident):
        return NOT_UNIQUE
    return NO_RULE


def may_refer(column, rows, value):
    if value == NONE:
        return column.allows_none
    return value in rows[column.target]


def is_taken(column, place, table_rows, ident):
    """Whether another row of the table has this row's value there, too."""
    value = table_rows[ident][place]
    if column.is_reference and value == NONE:
        return False
    return any([other != ident and table_rows[other][place] == value for other in table_rows])
