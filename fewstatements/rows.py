"""All tables' rows: for each table a dict of its rows' values, in a tuple, by their ids."""

from fewstatements.schema import GREATEST_IDENT, GREATEST_VALUE, LEAST_VALUE, MOST_ROWS


class NotOfForm(Exception):
    """A list of numbers isn't of the form that is asked for."""


class Cursor:
    """The numbers of a list, taken one behind another."""

    def __init__(self, numbers):
        self.numbers = numbers
        self.place = 0

    def take_from(self, least, greatest):
        """The next number, which must be there and within these bounds."""
        if self.is_done():
            raise NotOfForm()
        number = self.numbers[self.place]
        if number < least or number > greatest:
            raise NotOfForm()
        self.place += 1
        return number

    def is_done(self):
        return self.place == len(self.numbers)


def no_rows(tables):
    return [{} for table in tables]


def read_rows(tables, numbers):
    """The rows that the numbers tell, ids rising."""
    cursor = Cursor(numbers)
    rows = [read_table_rows(cursor, len(table.columns)) for table in tables]
    if not cursor.is_done():
        raise NotOfForm()
    return rows


def read_table_rows(cursor, width):
    table_rows = {}
    ident = 0
    for turn in range(cursor.take_from(0, MOST_ROWS)):
        ident = cursor.take_from(ident + 1, GREATEST_IDENT)
        table_rows[ident] = read_values(cursor, width)
    return table_rows


def read_values(cursor, width):
    return tuple([cursor.take_from(LEAST_VALUE, GREATEST_VALUE) for turn in range(width)])


def told_rows(rows):
    """The numbers that tell the rows."""
    told = []
    for table_rows in rows:
        told.append(len(table_rows))
        for ident in sorted(table_rows):
            told.append(ident)
            told.extend(table_rows[ident])
    return told
