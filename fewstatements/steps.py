"""The ways in which a changed row can be written: directly, or in two steps."""

from fewstatements.schema import NONE
from fewstatements.statements import REMOVED, UPDATE, Statement, changed_rows, direct_statement

MOST_LOOKED_AT = 32
MOST_SPARES = 8


class Ways:
    """The ways to write one changed row, as lists of statements; two_steps is empty if it can't be done so."""

    def __init__(self, changed, direct, two_steps):
        self.changed = changed
        self.direct = direct
        self.two_steps = two_steps


def all_ways(tables, now, wished):
    """The ways of all changed rows, in order."""
    spares = [table_spares(table, now[number], wished[number]) for number, table in enumerate(tables)]
    turns = [0 for table in tables]
    found = []
    for changed in changed_rows(now, wished):
        number = changed[1]
        columns = tables[number].columns
        statement = direct_statement(now, wished, changed)
        if changed[0] == REMOVED:
            two_steps = removal_steps(statement, columns, now[number][statement.ident])
        else:
            two_steps = held_back_steps(statement, stand_ins(columns, spares[number], turns[number]))
        found.append(Ways(changed, [statement], two_steps))
        turns[number] += 1
    return found


def table_spares(table, now_rows, wished_rows):
    """For each column its spare numbers."""
    rows = list(now_rows.values()) + list(wished_rows.values())
    return [spare_numbers(column, [row[place] for row in rows]) for place, column in enumerate(table.columns)]


def spare_numbers(column, taken):
    if column.is_reference or not column.is_unique:
        return []
    end = min(column.greatest + 1, column.least + MOST_LOOKED_AT)
    spares = [number for number in range(column.least, end) if number not in taken]
    return spares[:MOST_SPARES]


def stand_ins(columns, spares, turn):
    """For each column what a value there can be held back by, in this turn of the table's changed rows, or None."""
    return [stand_in(column, spares[place], turn) for place, column in enumerate(columns)]


def stand_in(column, column_spares, turn):
    if column.is_reference and column.allows_none:
        return NONE
    if turn < len(column_spares):
        return column_spares[turn]
    return None


def held_back_steps(statement, instead):
    """An insert or update with all that can be held back, and the update that makes good for it."""
    late = [pair for pair in statement.pairs if is_held_back(pair, instead)]
    if late == []:
        return []
    early = [(pair[0], instead[pair[0]]) if is_held_back(pair, instead) else pair for pair in statement.pairs]
    return [
        Statement(statement.kind, statement.table, statement.ident, early),
        Statement(UPDATE, statement.table, statement.ident, late),
    ]


def is_held_back(pair, instead):
    value = instead[pair[0]]
    return value is not None and value != pair[1]


def removal_steps(statement, columns, values):
    """An update of the references that can be none, and the delete."""
    pairs = [
        (place, NONE) for place, column in enumerate(columns) if column.allows_none and values[place] != NONE
    ]
    if pairs == []:
        return []
    return [Statement(UPDATE, statement.table, statement.ident, pairs), statement]
