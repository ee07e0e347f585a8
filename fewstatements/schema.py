"""What a schema is made of: a list of tables, each with its columns."""

LEAST_VALUE = -1000000
GREATEST_VALUE = 1000000

MOST_TABLES = 4
MOST_COLUMNS = 4
MOST_ROWS = 8
GREATEST_IDENT = 99

# The reference that refers to no row.
NONE = 0

# What comes of a row when the row to which it refers is removed.
REFUSE = 0
CASCADE = 1
CLEAR = 2


class Column:
    """A column of numbers, or of references to the rows of the table with the number target."""

    def __init__(self, name):
        self.name = name
        self.is_unique = False
        self.least = LEAST_VALUE
        self.greatest = GREATEST_VALUE
        self.is_reference = False
        self.target = 0
        self.allows_none = False
        self.removal = REFUSE


class Table:
    """A table's name and its columns; its rows are held elsewhere."""

    def __init__(self, name):
        self.name = name
        self.columns = []
