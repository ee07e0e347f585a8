"""Promise 3: flush, and what stands beside it: raw and size."""

import unittest

from asking import (
    CHANGED, DIRECT, EXAMPLE, EXAMPLE_ROWS, EXAMPLE_WISH, FLUSH, PLAN, RAW, SIZE, TABLES, WRITTEN, ask, asked, check,
    fill, first, joined, load, wish,
)

STUCK = ("table p { a: number from 1 to 2 unique; }", [2, 1, 1, 2, 2], [2, 1, 2, 2, 1])


class Flush(unittest.TestCase):
    def test_with_a_plan(self):
        told = asked(EXAMPLE, EXAMPLE_ROWS, EXAMPLE_WISH, FLUSH, TABLES, CHANGED, SIZE, DIRECT, RAW, PLAN, first())
        self.assertEqual(
            told,
            [[0, 3], [0] + EXAMPLE_WISH + EXAMPLE_WISH, [0, 0], [0, 0, 0], [0, 0], [0, 0], [0, 0, 0], [0, 0]],
        )

    def test_without_a_plan(self):
        told = asked(*STUCK, TABLES, CHANGED, SIZE, FLUSH, TABLES, CHANGED, SIZE)
        self.assertEqual(told[3], [1])
        self.assertEqual(told[4:], told[:3])
        self.assertEqual(told[4:], [[0] + STUCK[1] + STUCK[2], [0, 2, 1, 0, 1, 1, 0, 2], [0, 2, 0]])

    def test_nothing_changed(self):
        self.assertEqual(ask(FLUSH), [[0, 0]])
        self.assertEqual(asked(EXAMPLE, EXAMPLE_ROWS, EXAMPLE_ROWS, FLUSH, FLUSH), [[0, 0], [0, 0]])

    def test_how_many_statements(self):
        self.assertEqual(asked("table p { }", [2, 1, 2], [3, 2, 3, 4], FLUSH, FLUSH), [[0, 3], [0, 0]])

    def test_a_second_flush(self):
        told = asked(EXAMPLE, EXAMPLE_ROWS, EXAMPLE_WISH, FLUSH, FLUSH, wish(*EXAMPLE_ROWS), FLUSH, TABLES)
        self.assertEqual(told, [[0, 3], [0, 0], [0], [0, 3], [0] + EXAMPLE_ROWS + EXAMPLE_ROWS])

    def test_what_is_wished_later_leaves_the_rows_as_they_are(self):
        told = asked(EXAMPLE, EXAMPLE_ROWS, EXAMPLE_WISH, FLUSH, wish(0, 0), TABLES, CHANGED)
        self.assertEqual(told[2:], [[0] + EXAMPLE_WISH + [0, 0], [0, 3, 2, 0, 1, 2, 0, 2, 2, 1, 7]])

    def test_checks_behind_it_start_from_the_new_rows(self):
        told = asked(EXAMPLE, EXAMPLE_ROWS, EXAMPLE_WISH, FLUSH, check(), check(1, 0, 1, 1, 0, 5), TABLES)
        self.assertEqual(told[1:], [[0], [1, 0], [0] + EXAMPLE_WISH + EXAMPLE_WISH])

    def test_planning_changes_nothing(self):
        asking = [WRITTEN, TABLES, CHANGED, DIRECT, PLAN, first(), first(0), first(0, 1), RAW, SIZE]
        told = asked(EXAMPLE, EXAMPLE_ROWS, EXAMPLE_WISH, *asking, *asking)
        self.assertEqual(told[:10], told[10:])

    def test_the_schema_stays(self):
        told = asked(EXAMPLE, EXAMPLE_ROWS, EXAMPLE_WISH, WRITTEN, FLUSH, WRITTEN)
        self.assertEqual(told[0], told[2])


class Raw(unittest.TestCase):
    def test_nothing_changed(self):
        self.assertEqual(ask(RAW), [[0, 0]])
        self.assertEqual(asked(EXAMPLE, EXAMPLE_ROWS, EXAMPLE_ROWS, RAW), [[0, 0]])

    def test_example(self):
        self.assertEqual(
            asked(EXAMPLE, EXAMPLE_ROWS, EXAMPLE_WISH, RAW), [[0, 2, 1, 0, 1, 1, 0, 6, 1, 0, 2, 1, 0, 5]]
        )

    def test_removed_then_other_then_new_rows(self):
        schema = "table p { n: number; } table q { n: number; }"
        now = [4, 2, 0, 3, 0, 5, 0, 6, 0, 3, 2, 0, 3, 0, 9, 9]
        wished = [4, 1, 1, 2, 1, 4, 1, 5, 1, 3, 1, 1, 2, 1, 9, 9]
        self.assertEqual(
            asked(schema, now, wished, RAW)[0],
            [0, 9] + joined(
                [2, 0, 3], [2, 0, 6], [2, 1, 3],
                [1, 0, 2, 1, 0, 1], [1, 0, 5, 1, 0, 1], [1, 1, 2, 1, 0, 1],
                [0, 0, 1, 1], [0, 0, 4, 1], [0, 1, 1, 1],
            ),
        )

    def test_more_than_eight_changed_rows_and_stuck_ones(self):
        told = asked("table p { }", [8, 1, 2, 3, 4, 5, 6, 7, 8], [1, 9], RAW)[0]
        self.assertEqual(told, [0, 9] + joined(*[[2, 0, ident] for ident in range(1, 9)]) + [0, 0, 9])
        self.assertEqual(asked(*STUCK, RAW)[0], [0, 2, 1, 0, 1, 1, 0, 2, 1, 0, 2, 1, 0, 1])


class Size(unittest.TestCase):
    def test_nothing_changed(self):
        self.assertEqual(ask(SIZE), [[0, 0, 0]])
        self.assertEqual(asked(EXAMPLE, EXAMPLE_ROWS, EXAMPLE_ROWS, SIZE), [[0, 0, 0]])

    def test_rows_of_every_kind(self):
        schema = "table p { u: number from 0 to 99 unique; n: number; r: ref p none; }"
        now = [5, 1, 1, 0, 0, 2, 2, 0, 1, 3, 3, 0, 0, 4, 4, 0, 1, 5, 5, 0, 0]
        wished = [4, 1, 1, 0, 0, 3, 3, 1, 0, 5, 6, 0, 0, 7, 7, 0, 0]
        # 2 and 4 are removed and refer to a row, 3 is other in n alone, 5 in u, 7 is new.
        self.assertEqual(asked(schema, now, wished, SIZE)[0], [0, 5, 4])
        # With the spares 0, 8 and 9 alone there is none for 5 and 7, the fourth and fifth changed rows.
        self.assertEqual(asked(schema.replace("99", "9"), now, wished, SIZE)[0], [0, 5, 2])

    def test_more_than_eight_changed_rows(self):
        schema = "table p { r: ref p none; }"
        now = [8] + [number for ident in range(1, 9) for number in (ident, 1)]
        wished = [8] + [number for ident in range(11, 19) for number in (ident, 11)]
        self.assertEqual(asked(schema, now, wished, SIZE)[0], [0, 16, 16])


class Together(unittest.TestCase):
    def test_calls_in_any_order(self):
        told = ask(
            SIZE, first(), check(), load(EXAMPLE), PLAN, fill(*EXAMPLE_ROWS), RAW, wish(*EXAMPLE_WISH), first(2),
            check(7), load("!"), SIZE, FLUSH, load("table p { }"), SIZE, TABLES,
        )
        self.assertEqual(
            told,
            [[0, 0, 0], [0, 0], [0], [0, 2, 3], [0, 0, 0], [0], [0, 0], [0], [-12], [-7], [1, 1, 0], [0, 2, 2],
             [0, 3], [0, 1, 0], [0, 0, 0], [0, 0, 0]],
        )


if __name__ == "__main__":
    unittest.main()
