"""How the tests put calls into one list, and take the answers apart."""

from fewstatements.changes import answers

EXAMPLE = (
    "table p { age: number from 0 to 9 unique; boss: ref p none; } table q { of: ref p; }"
)
EXAMPLE_ROWS = [2, 1, 5, 0, 2, 6, 1, 1, 7, 2]
EXAMPLE_WISH = [2, 1, 6, 0, 2, 5, 1, 1, 7, 2]

WRITTEN = [1]
TABLES = [4]
CHANGED = [5]
DIRECT = [6]
PLAN = [7]
RAW = [10]
FLUSH = [11]
SIZE = [12]


def load(text):
    numbers = list(text.encode("latin-1")) if isinstance(text, str) else list(text)
    return [0, len(numbers)] + numbers


def fill(*numbers):
    return [2, len(numbers)] + list(numbers)


def wish(*numbers):
    return [3, len(numbers)] + list(numbers)


def first(*numbers):
    return [8, len(numbers)] + list(numbers)


def check(*numbers):
    return [9, len(numbers)] + list(numbers)


def parted(told):
    """The answers, one list each; fails if a count ahead of one is wrong."""
    found = []
    place = 0
    while place < len(told):
        end = place + 1 + told[place]
        if told[place] < 1 or end > len(told):
            raise AssertionError("a wrong count at %d of %r" % (place, told))
        found.append(told[place + 1:end])
        place = end
    return found


def ask(*calls):
    """The answers of these calls, one list each."""
    return parted(answers([number for call in calls for number in call]))


def last(*calls):
    return ask(*calls)[-1]


def asked(schema, now, wished, *calls):
    """The answers of these calls alone, once this is loaded, filled and wished; fails if that isn't taken."""
    told = ask(load(schema), fill(*now), wish(*wished), *calls)
    if [told[0][0]] + told[1] + told[2] != [0, 0, 0]:
        raise AssertionError("not taken: %r" % told[:3])
    return told[3:]


def joined(*statements):
    """The numbers of these statements, one behind another."""
    return [number for statement in statements for number in statement]
