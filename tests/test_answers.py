"""The interface: one list of calls in, one list of answers back."""

import unittest

from asking import (
    CHANGED, DIRECT, EXAMPLE, EXAMPLE_ROWS, EXAMPLE_WISH, FLUSH, PLAN, RAW, SIZE, TABLES, WRITTEN, check, fill, first,
    load, parted, wish,
)
from fewstatements.changes import answers

SESSION = (
    load(EXAMPLE) + fill(*EXAMPLE_ROWS) + wish(*EXAMPLE_WISH) + WRITTEN + TABLES + CHANGED + DIRECT
    + load("!") + load([-1]) + fill() + wish(0) + PLAN + first(0) + first(9) + check(1, 0, 1, 1, 0, 0) + check(3)
    + RAW + SIZE + FLUSH + SIZE
)


class Answers(unittest.TestCase):
    def test_calls_behind_one_another(self):
        calls = load("table p { a: number; }") + fill(1, 1, 7) + wish(0) + TABLES + CHANGED + DIRECT
        self.assertEqual(
            answers(calls),
            [3, 0, 1, 1] + [1, 0] + [1, 0] + [5, 0, 1, 1, 7, 0] + [5, 0, 1, 2, 0, 1] + [5, 0, 1, 2, 0, 1],
        )

    def test_refusals_are_their_number_alone(self):
        self.assertEqual(answers(load([-1]) + load([32] * 4097) + fill(1)), [1, -1, 1, -2, 1, -4])

    def test_calls_go_on_behind_faults_and_refusals(self):
        self.assertEqual(
            answers(load("!") + fill(9) + load("table p { }") + fill(1, 1) + WRITTEN),
            [3, 1, 1, 0, 1, -4, 3, 0, 1, 0, 1, 0, 13, 0] + list(b"table p {\n}\n"),
        )

    def test_lists_whose_numbers_look_like_calls(self):
        self.assertEqual(answers(fill(0, 1, 2, 3, 4, 5, 6) + CHANGED), [1, -4, 2, 0, 0])
        self.assertEqual(answers(first(7, 8, 9) + check(10, 11, 12) + SIZE), [1, -12, 1, -7, 3, 0, 0, 0])

    def test_empty_lists(self):
        self.assertEqual(answers(load([]) + fill() + wish()), [3, 0, 0, 0, 1, 0, 1, 0])
        self.assertEqual(answers(first() + check()), [2, 0, 0, 1, 0])

    def test_a_hundred_calls(self):
        self.assertEqual(answers(CHANGED * 100), [2, 0, 0] * 100)

    def test_a_hundred_calls_of_every_kind(self):
        start = load(EXAMPLE) + fill(*EXAMPLE_ROWS)
        turn = wish(*EXAMPLE_WISH) + PLAN + first(0) + check(2, 1, 7) + RAW + SIZE + FLUSH
        back = wish(*EXAMPLE_ROWS) + FLUSH
        calls = start + (turn + back) * 10 + SIZE * 8
        kept = list(calls)
        told = parted(answers(calls))
        self.assertEqual(len(told), 100)
        self.assertEqual(told[2:11] * 10, told[2:92])
        self.assertEqual(told[92:], [[0, 0, 0]] * 8)
        self.assertEqual(calls, kept)

    def test_a_hundred_calls_that_are_stuck(self):
        wished = [8] + [number for ident in range(1, 9) for number in (ident, ident % 8 + 1, ident % 8 + 1)]
        calls = load("table p { of: ref p none; on: ref p; }") + wish(*wished) + PLAN * 98
        stuck = [1, 8] + [number for ident in range(1, 9) for number in (0, 0, ident)]
        self.assertEqual(parted(answers(calls))[2:], [stuck] * 98)

    def test_what_is_handed_in_is_not_changed(self):
        calls = list(SESSION)
        answers(calls)
        self.assertEqual(calls, list(SESSION))

    def test_nothing_is_kept_from_one_time_to_the_next(self):
        first = answers(list(SESSION))
        self.assertEqual(answers(list(WRITTEN + TABLES + CHANGED + DIRECT)), [1, 0, 1, 0, 2, 0, 0, 2, 0, 0])
        self.assertEqual(answers(list(PLAN + RAW + FLUSH + SIZE)), [3, 0, 0, 0, 2, 0, 0, 2, 0, 0, 3, 0, 0, 0])
        self.assertEqual(answers(list(SESSION)), first)

    def test_what_is_given_back_is_the_callers_own(self):
        first = answers(list(SESSION))
        kept = list(first)
        first.clear()
        self.assertEqual(answers(list(SESSION)), kept)

    def test_whole_numbers_alone(self):
        told = answers(list(SESSION))
        self.assertIs(type(told), list)
        self.assertEqual({type(number) for number in told}, {int})


if __name__ == "__main__":
    unittest.main()
