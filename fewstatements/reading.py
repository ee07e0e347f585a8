"""A schema's text read into its tables, up to its first fault."""

from fewstatements.faults import CONTRARY, NAMED_TWICE, NO_SUCH_TABLE, TOO_MANY, Fault
from fewstatements.scanning import END, NUMBER, WORD, as_text, token_at
from fewstatements.schema import CASCADE, CLEAR, MOST_COLUMNS, MOST_TABLES, Column, Table

NO_NAMES = ("table", "number", "from", "to", "ref", "none", "cascade", "clear", "unique")


class Reader:
    """The token that comes next, and the references whose tables are still to be found."""

    def __init__(self, numbers):
        self.text = as_text(numbers)
        self.token = token_at(self.text, 0)
        self.references = []

    def fail(self, kind):
        raise Fault(kind, self.token.place)

    def advance(self):
        taken = self.token
        self.token = token_at(self.text, taken.end)
        return taken

    def comes(self, said):
        return self.token.said == said

    def take(self, said):
        if not self.comes(said):
            self.fail(self.token.fault)
        self.advance()

    def take_if(self, said):
        if self.comes(said):
            self.advance()
            return True
        return False

    def take_name(self, earlier):
        """The token of a name that none of the earlier ones is."""
        if self.token.kind != WORD or self.token.said in NO_NAMES:
            self.fail(self.token.fault)
        if self.token.said in earlier:
            self.fail(NAMED_TWICE)
        return self.advance()

    def take_number(self):
        is_negative = self.take_if("-")
        if self.token.kind != NUMBER:
            self.fail(self.token.fault)
        number = int(self.advance().said)
        return -number if is_negative else number


def read_schema(numbers):
    """The tables that these bytes tell; their first fault is raised."""
    reader = Reader(numbers)
    tables = []
    while reader.token.kind != END:
        tables.append(read_table(reader, tables))
    find_targets(reader.references, tables)
    return tables


def read_table(reader, earlier):
    if reader.comes("table") and len(earlier) == MOST_TABLES:
        reader.fail(TOO_MANY)
    reader.take("table")
    table = Table(reader.take_name([other.name for other in earlier]).said)
    reader.take("{")
    while not reader.take_if("}"):
        # Ahead of the token itself: here even a broken one, or the end, is one column too many.
        if len(table.columns) == MOST_COLUMNS:
            reader.fail(TOO_MANY)
        table.columns.append(read_column(reader, table.columns))
    return table


def read_column(reader, earlier):
    column = Column(reader.take_name([other.name for other in earlier]).said)
    reader.take(":")
    if reader.take_if("ref"):
        read_reference(reader, column)
    else:
        reader.take("number")
        read_range(reader, column)
    column.is_unique = reader.take_if("unique")
    reader.take(";")
    return column


def read_range(reader, column):
    if not reader.take_if("from"):
        return
    column.least = reader.take_number()
    reader.take("to")
    place = reader.token.place
    column.greatest = reader.take_number()
    if column.greatest < column.least:
        raise Fault(CONTRARY, place)


def read_reference(reader, column):
    column.is_reference = True
    reader.references.append((column, reader.take_name([])))
    column.allows_none = reader.take_if("none")
    if reader.comes("clear") and not column.allows_none:
        reader.fail(CONTRARY)
    if reader.take_if("cascade"):
        column.removal = CASCADE
    elif reader.take_if("clear"):
        column.removal = CLEAR


def find_targets(references, tables):
    """Only now: a reference may be to a table that is told behind it."""
    numbers = {}
    for number, table in enumerate(tables):
        numbers[table.name] = number
    for column, name in references:
        if name.said not in numbers:
            raise Fault(NO_SUCH_TABLE, name.place)
        column.target = numbers[name.said]
