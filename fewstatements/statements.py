"""Changed rows, and the statements that change them."""

NEW = 0
OTHER = 1
REMOVED = 2

INSERT = 0
UPDATE = 1
DELETE = 2


class Statement:
    """An insert, an update or a delete of a row.

    An insert has a pair of a column and its value for each column, an update for those it changes.
    """

    def __init__(self, kind, table, ident, pairs):
        self.kind = kind
        self.table = table
        self.ident = ident
        self.pairs = pairs


def changed_rows(now, wished):
    """How each changed row is changed (new, other or removed), its table and its id, in order."""
    changed = []
    for table in range(len(now)):
        for ident in sorted(set(now[table]) | set(wished[table])):
            if ident not in now[table]:
                changed.append((NEW, table, ident))
            elif ident not in wished[table]:
                changed.append((REMOVED, table, ident))
            elif now[table][ident] != wished[table][ident]:
                changed.append((OTHER, table, ident))
    return changed


def direct_statement(now, wished, changed):
    """The direct statement of one changed row."""
    table = changed[1]
    ident = changed[2]
    if changed[0] == REMOVED:
        return Statement(DELETE, table, ident, [])
    pairs = list(enumerate(wished[table][ident]))
    if changed[0] == NEW:
        return Statement(INSERT, table, ident, pairs)
    values = now[table][ident]
    return Statement(UPDATE, table, ident, [pair for pair in pairs if values[pair[0]] != pair[1]])


def direct_statements(now, wished):
    return [direct_statement(now, wished, changed) for changed in changed_rows(now, wished)]


def raw_statements(now, wished):
    """The direct statements in the order that does where rules are looked at in the end alone."""
    statements = direct_statements(now, wished)
    ordered = []
    for kind in (DELETE, UPDATE, INSERT):
        ordered.extend([statement for statement in statements if statement.kind == kind])
    return ordered


def told_changed(changed):
    """How many changed rows these are, and the numbers that tell them."""
    told = [len(changed)]
    for row in changed:
        told.extend(row)
    return told


def told_statement(statement):
    """The numbers that tell the statement."""
    told = [statement.kind, statement.table, statement.ident]
    if statement.kind == INSERT:
        told.extend([pair[1] for pair in statement.pairs])
    elif statement.kind == UPDATE:
        told.append(len(statement.pairs))
        for pair in statement.pairs:
            told.extend(pair)
    return told


def told_statements(statements):
    """How many statements there are, and the numbers that tell them."""
    told = [len(statements)]
    for statement in statements:
        told.extend(told_statement(statement))
    return told
