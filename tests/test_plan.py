"""Promise 3: the plan with the fewest rows in two steps, what is stuck, and what is refused."""

import unittest

from asking import (
    CHANGED, EXAMPLE, EXAMPLE_ROWS, EXAMPLE_WISH, FLUSH, PLAN, SIZE, TABLES, ask, asked, check, first, joined, load,
    wish,
)

AGES = "table p { age: number from 0 to 9 unique; }"
BOSSES = "table p { boss: ref p none; }"


class Example(unittest.TestCase):
    def test_call_by_call(self):
        statements = [[1, 0, 1, 1, 0, 0], [1, 0, 2, 1, 0, 5], [1, 0, 1, 1, 0, 6]]
        self.assertEqual(
            asked(EXAMPLE, EXAMPLE_ROWS, EXAMPLE_WISH, first(), PLAN, check(*joined(*statements)), SIZE, FLUSH, SIZE),
            [[1, 0, 0, 1], [0, 1, 0, 3] + joined(*statements), [0], [0, 2, 2], [0, 3], [0, 0, 0]],
        )

    def test_stuck_rows(self):
        self.assertEqual(
            ask(load("table r { on: ref r; }"), wish(2, 1, 2, 2, 1), PLAN),
            [[0, 1, 1], [0], [1, 2, 0, 0, 1, 0, 0, 2]],
        )

    def test_the_word_to_is_no_name(self):
        # The document's example has it as a column's name, its words rule it out.
        self.assertEqual(
            ask(load("table r { to: ref r; }"), wish(2, 1, 2, 2, 1), PLAN), [[1, 3, 10], [-4], [0, 0, 0]]
        )


class Plan(unittest.TestCase):
    def assert_plan(self, schema, now, wished, split, *statements):
        told = asked(schema, now, wished, PLAN, check(*joined(*statements)), FLUSH, CHANGED)
        self.assertEqual(told[0], [0, len(split)] + split + [len(statements)] + joined(*statements))
        self.assertEqual(told[1:], [[0], [0, len(statements)], [0, 0]])

    def assert_stuck(self, schema, now, wished, *stuck):
        told = asked(schema, now, wished, TABLES, PLAN, FLUSH, TABLES)
        self.assertEqual(told[1:3], [[1, len(stuck)] + joined(*stuck), [1]])
        self.assertEqual(told[3], told[0])

    def test_nothing_changed(self):
        self.assertEqual(ask(PLAN), [[0, 0, 0]])
        self.assert_plan(AGES, [1, 1, 5], [1, 1, 5], [])

    def test_no_row_in_two_steps(self):
        self.assert_plan(
            EXAMPLE, [0, 0], [2, 1, 5, 2, 2, 6, 0, 1, 7, 2], [],
            [0, 0, 2, 6, 0], [0, 0, 1, 5, 2], [0, 1, 7, 2],
        )
        self.assert_plan(
            EXAMPLE, [2, 1, 5, 2, 2, 6, 0, 1, 7, 2], [0, 0], [],
            [2, 0, 1], [2, 1, 7], [2, 0, 2],
        )

    def test_values_that_change_places(self):
        self.assert_plan(
            AGES, [2, 1, 0, 2, 1], [2, 1, 1, 2, 0], [0],
            [1, 0, 1, 1, 0, 2], [1, 0, 2, 1, 0, 0], [1, 0, 1, 1, 0, 1],
        )

    def test_values_that_move_on_in_a_circle(self):
        self.assert_plan(
            AGES, [3, 1, 1, 2, 2, 3, 3], [3, 1, 2, 2, 3, 3, 1], [0],
            [1, 0, 1, 1, 0, 0], [1, 0, 3, 1, 0, 1], [1, 0, 2, 1, 0, 3], [1, 0, 1, 1, 0, 2],
        )

    def test_unique_references_that_change_places(self):
        self.assert_plan(
            "table p { of: ref p none unique; }", [2, 1, 2, 2, 1], [2, 1, 1, 2, 2], [0],
            [1, 0, 1, 1, 0, 0], [1, 0, 2, 1, 0, 2], [1, 0, 1, 1, 0, 1],
        )

    def test_new_rows_in_a_circle(self):
        self.assert_plan(
            BOSSES, [0], [3, 1, 2, 2, 3, 3, 1], [0],
            [0, 0, 1, 0], [0, 0, 3, 1], [0, 0, 2, 3], [1, 0, 1, 1, 0, 2],
        )

    def test_removed_rows_in_a_circle(self):
        for removal in ("", " cascade", " clear"):
            with self.subTest(removal=removal):
                self.assert_plan(
                    "table p { boss: ref p none" + removal + "; }", [3, 1, 2, 2, 3, 3, 1], [0], [0],
                    [1, 0, 1, 1, 0, 0], [2, 0, 2], [2, 0, 3], [2, 0, 1],
                )

    def test_two_pairs_that_change_places(self):
        self.assert_plan(
            AGES, [4, 1, 1, 2, 2, 3, 3, 4, 4], [4, 1, 2, 2, 1, 3, 4, 4, 3], [0, 2],
            [1, 0, 1, 1, 0, 0], [1, 0, 2, 1, 0, 1], [1, 0, 1, 1, 0, 2],
            [1, 0, 3, 1, 0, 6], [1, 0, 4, 1, 0, 3], [1, 0, 3, 1, 0, 4],
        )

    def test_of_as_many_the_first_by_their_numbers(self):
        self.assert_plan(
            AGES, [4, 1, 1, 2, 2, 3, 3, 4, 4], [4, 1, 3, 2, 4, 3, 1, 4, 2], [0, 1],
            [1, 0, 1, 1, 0, 0], [1, 0, 2, 1, 0, 5], [1, 0, 3, 1, 0, 1], [1, 0, 1, 1, 0, 3],
            [1, 0, 4, 1, 0, 2], [1, 0, 2, 1, 0, 4],
        )

    def test_rows_ahead_that_would_not_help(self):
        self.assert_plan(
            AGES, [2, 2, 5, 3, 6], [3, 1, 9, 2, 6, 3, 5], [1],
            [0, 0, 1, 9], [1, 0, 2, 1, 0, 1], [1, 0, 3, 1, 0, 5], [1, 0, 2, 1, 0, 6],
        )

    def test_rows_ahead_that_cannot_be_in_two_steps(self):
        self.assert_plan(
            "table p { of: ref q; } table q { of: ref p none; }", [0, 0], [1, 1, 1, 1, 1, 1], [1],
            [0, 1, 1, 0], [0, 0, 1, 1], [1, 1, 1, 1, 0, 1],
        )

    def test_fewer_rows_go_ahead_of_earlier_ones(self):
        self.assert_plan(
            "table p { a: ref p none; b: ref p none; }", [0], [3, 1, 3, 0, 2, 3, 0, 3, 1, 2], [2],
            [0, 0, 3, 0, 0], [0, 0, 1, 3, 0], [0, 0, 2, 3, 0], [1, 0, 3, 2, 0, 1, 1, 2],
        )

    def test_a_row_in_two_steps_in_each_table(self):
        schema = "table p { a: number from 0 to 9 unique; } table q { a: number from 0 to 9 unique; }"
        self.assert_plan(
            schema, [2, 1, 1, 2, 2, 2, 1, 1, 2, 2], [2, 1, 2, 2, 1, 2, 1, 2, 2, 1], [0, 2],
            [1, 0, 1, 1, 0, 0], [1, 0, 2, 1, 0, 1], [1, 0, 1, 1, 0, 2],
            [1, 1, 1, 1, 0, 0], [1, 1, 2, 1, 0, 1], [1, 1, 1, 1, 0, 2],
        )

    def test_a_plan_where_all_rows_in_two_steps_would_be_stuck(self):
        schema = "table p { a: number from 0 to 99 unique; } table q { of: ref p; n: number from 0 to 9 unique; }"
        stay = [number for ident in range(3, 9) for number in (ident, ident)]
        now = [7] + stay + [9, 9] + [2, 1, 9, 0, 2, 3, 1]
        wished = [8, 1, 9, 2, 2] + stay + [2, 1, 2, 1, 2, 3, 0]
        self.assert_plan(
            schema, now, wished, [3],
            [0, 0, 2, 2], [1, 1, 1, 2, 0, 2, 1, 2], [2, 0, 9], [0, 0, 1, 9], [1, 1, 2, 1, 1, 0], [1, 1, 1, 1, 1, 1],
        )
        self.assertEqual(asked(schema, now, wished, SIZE, first(0, 1, 3, 4))[1][0], 1)

    def test_a_full_table(self):
        full = [8] + list(range(2, 10))
        self.assert_plan("table p { }", full, [8, 1] + list(range(2, 9)), [], [2, 0, 9], [0, 0, 1])
        new = [8, 1] + list(range(2, 9))
        self.assert_plan(
            "table p { } table q { of: ref p none; }", full + [1, 1, 9], new + [1, 1, 1], [2],
            [1, 1, 1, 1, 0, 0], [2, 0, 9], [0, 0, 1], [1, 1, 1, 1, 0, 1],
        )
        self.assert_stuck(
            "table p { } table q { of: ref p; }", full + [1, 1, 9], new + [1, 1, 1], [0, 0, 1], [2, 0, 9], [1, 1, 1]
        )

    def test_stuck_new_rows(self):
        self.assert_stuck("table p { of: ref p; }", [0], [2, 1, 2, 2, 1], [0, 0, 1], [0, 0, 2])

    def test_stuck_other_rows(self):
        self.assert_stuck(
            "table p { a: number from 1 to 2 unique; }", [2, 1, 1, 2, 2], [2, 1, 2, 2, 1], [1, 0, 1], [1, 0, 2]
        )

    def test_stuck_removed_rows(self):
        for removal in ("", " cascade"):
            with self.subTest(removal=removal):
                self.assert_stuck(
                    "table p { of: ref p" + removal + "; }", [2, 1, 2, 2, 1], [0], [2, 0, 1], [2, 0, 2]
                )

    def test_rows_that_are_written_are_not_stuck(self):
        self.assert_stuck(
            "table p { of: ref p; }", [1, 9, 9], [4, 1, 9, 2, 3, 3, 2, 9, 1], [0, 0, 2], [0, 0, 3]
        )

    def test_a_row_whose_second_step_is_left_is_stuck(self):
        # Directly none but the first could be written, in two steps q's row is, but for its update.
        schema = "table p { of: ref p; } table q { of: ref p none; n: number; }"
        self.assert_stuck(
            schema, [0, 0], [2, 1, 2, 2, 1, 2, 1, 1, 5, 2, 0, 6], [0, 0, 1], [0, 0, 2], [0, 1, 1]
        )

    def test_stuck_is_told_of_all_rows_that_can_be_in_two_steps(self):
        # The ages could change places in two steps, so these rows are not stuck.
        schema = "table p { age: number from 0 to 9 unique; of: ref p; }"
        self.assert_stuck(
            schema, [2, 1, 5, 1, 2, 6, 1], [4, 1, 6, 1, 2, 5, 1, 3, 7, 4, 4, 8, 3], [0, 0, 3], [0, 0, 4]
        )

    def test_the_most_rows(self):
        now = [8] + [number for ident in range(1, 9) for number in (ident, ident)]
        wished = [8] + [number for ident in range(1, 9) for number in (ident, ident + 1 if ident % 2 else ident - 1)]
        told = asked("table p { age: number from 1 to 99 unique; }", now, wished, PLAN)[0]
        self.assertEqual(told[:7], [0, 4, 0, 2, 4, 6, 12])


class Refused(unittest.TestCase):
    def setting(self, count):
        """So many new rows: the first half of them can be written in two steps, the others can't."""
        half = (count + 1) // 2
        ages = [number for ident in range(1, half + 1) for number in (ident, ident + 40)]
        others = list(range(1, count - half + 1))
        schema = "table p { age: number from 0 to 99 unique; } table q { }"
        return (schema, [0, 0], [half] + ages + [count - half] + others)

    def test_more_than_eight_changed_rows(self):
        told = asked(*self.setting(9), PLAN, first(), first(0), first(-1), first(99), FLUSH, SIZE)
        self.assertEqual(told, [[-10]] * 6 + [[0, 9, 5]])

    def test_eight_changed_rows(self):
        told = asked(*self.setting(8), PLAN, first(), first(0), FLUSH)
        self.assertEqual([told[0][:3], told[1][:2], told[2][:2], told[3]], [[0, 0, 8], [0, 8], [0, 9], [0, 8]])

    def test_all_that_can_be_changed(self):
        schema = "table a { } table b { } table c { } table d { }"
        now = [8, 1, 2, 3, 4, 5, 6, 7, 8] * 4
        wished = [8, 11, 12, 13, 14, 15, 16, 17, 18] * 4
        told = asked(schema, now, wished, PLAN, first(), FLUSH, SIZE)
        self.assertEqual(told, [[-10], [-10], [-10], [0, 64, 0]])

    def test_a_refusal_leaves_the_object_as_it_was(self):
        told = asked(*self.setting(9), TABLES, CHANGED, PLAN, first(7), FLUSH, TABLES, CHANGED)
        self.assertEqual(told[:2], told[5:])
        told = asked(*self.setting(8), TABLES, CHANGED, first(7), first(1, 0), TABLES, CHANGED)
        self.assertEqual(told[2:4], [[-12], [-12]])
        self.assertEqual(told[:2], told[4:])

    def test_splits(self):
        setting = self.setting(6)
        for split in ((), (0,), (1,), (2,), (0, 1), (0, 2), (1, 2), (0, 1, 2)):
            with self.subTest(split=split):
                self.assertEqual(asked(*setting, first(*split))[0][:2], [0, 6 + len(split)])

    def test_lists_that_are_no_splits(self):
        setting = self.setting(6)
        for split in (
            (-1,), (-1, 0), (6,), (0, 6), (7,), (10 ** 18,), (-10 ** 18,), (3,), (5,), (0, 3), (0, 1, 2, 5),
            (1, 0), (0, 2, 1), (0, 0), (1, 1), (0, 1, 1), (0, 1, 2, 0), tuple(range(5000)),
        ):
            with self.subTest(split=split[:9]):
                self.assertEqual(asked(*setting, first(*split))[0], [-12])

    def test_splits_of_nothing(self):
        self.assertEqual(ask(first(), first(0), first(-1)), [[0, 0], [-12], [-12]])


if __name__ == "__main__":
    unittest.main()
