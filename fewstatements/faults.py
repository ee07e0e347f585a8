"""The first fault of a schema's text."""

UNKNOWN_BYTE = 1
MALFORMED = 2
MISPLACED = 3
ENDED = 4
TOO_MANY = 5
NAMED_TWICE = 6
NO_SUCH_TABLE = 7
CONTRARY = 8


class Fault(Exception):
    """A fault's kind, and its place in the text."""

    def __init__(self, kind, place):
        Exception.__init__(self, "a fault of a schema's text")
        self.kind = kind
        self.place = place
