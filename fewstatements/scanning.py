"""The tokens of a schema's text."""

from fewstatements.faults import ENDED, MALFORMED, MISPLACED, UNKNOWN_BYTE

LETTERS = "abcdefghijklmnopqrstuvwxyz"
DIGITS = "0123456789"
BEHIND_LETTER = "abcdefghijklmnopqrstuvwxyz0123456789_"
SIGNS = "-:;{}"
MEANT = "abcdefghijklmnopqrstuvwxyz0123456789_-:;{}# \n"
UNMEANT = "?"

LONGEST_WORD = 12
MOST_DIGITS = 7
GREATEST_NUMBER = 1000000

WORD = 0
NUMBER = 1
SIGN = 2
END = 3
BROKEN = 4


class Token:
    """A token from its place to before its end; its fault is the one due where it isn't wanted.

    Of what is no good token nothing is said, so it is never taken for a wanted one.
    """

    def __init__(self, kind, fault, place, end, said):
        self.kind = kind
        self.fault = fault
        self.place = place
        self.end = end
        self.said = said


def as_text(numbers):
    """A text with one sign for each byte, so that places stay the same."""
    known = {9: " ", 13: " "}
    for sign in MEANT:
        known[ord(sign)] = sign
    return "".join([known.get(number, UNMEANT) for number in numbers])


def token_at(text, place):
    """The first token from this place on."""
    start = skip_blanks(text, place)
    if start == len(text):
        return Token(END, ENDED, start, start, "")
    first = text[start]
    if first in LETTERS:
        return word_at(text, start)
    if first in DIGITS:
        return number_at(text, start)
    if first in SIGNS:
        return Token(SIGN, MISPLACED, start, start + 1, first)
    return Token(BROKEN, UNKNOWN_BYTE, start, start + 1, "")


def skip_blanks(text, place):
    in_remark = False
    while place < len(text):
        sign = text[place]
        if sign == "\n":
            in_remark = False
        elif sign == "#":
            in_remark = True
        elif sign != " " and not in_remark:
            return place
        place += 1
    return place


def word_at(text, start):
    end = end_of_run(text, start, BEHIND_LETTER)
    if end - start > LONGEST_WORD:
        return Token(BROKEN, MALFORMED, start, end, "")
    return Token(WORD, MISPLACED, start, end, text[start:end])


def number_at(text, start):
    end = end_of_run(text, start, DIGITS)
    digits = text[start:end]
    if not is_number(digits):
        return Token(BROKEN, MALFORMED, start, end, "")
    return Token(NUMBER, MISPLACED, start, end, digits)


def is_number(digits):
    if len(digits) > MOST_DIGITS:
        return False
    if digits[0] == "0" and len(digits) > 1:
        return False
    return int(digits) <= GREATEST_NUMBER


def end_of_run(text, start, signs):
    end = start
    while end < len(text) and text[end] in signs:
        end += 1
    return end
