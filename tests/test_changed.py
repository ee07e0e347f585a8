"""Promises 2 and 4: changed rows, direct statements, and how these are told."""

import unittest

from asking import CHANGED, DIRECT, EXAMPLE, EXAMPLE_ROWS, EXAMPLE_WISH, TABLES, ask, fill, last, load, wish

THREE = "table p { a: number; b: number; c: number; } table q { } table r { d: number; }"


class Changed(unittest.TestCase):
    def changed(self, schema, now, wished):
        return ask(load(schema), fill(*now), wish(*wished), CHANGED, DIRECT)[-2:]

    def test_nothing_is_changed(self):
        self.assertEqual(ask(CHANGED, DIRECT), [[0, 0], [0, 0]])
        self.assertEqual(ask(load(EXAMPLE), CHANGED, DIRECT)[-2:], [[0, 0], [0, 0]])
        self.assertEqual(ask(load(EXAMPLE), fill(*EXAMPLE_ROWS), CHANGED, DIRECT)[-2:], [[0, 0], [0, 0]])
        self.assertEqual(self.changed(EXAMPLE, EXAMPLE_ROWS, EXAMPLE_ROWS), [[0, 0], [0, 0]])

    def test_example(self):
        self.assertEqual(
            self.changed(EXAMPLE, EXAMPLE_ROWS, EXAMPLE_WISH),
            [[0, 2, 1, 0, 1, 1, 0, 2], [0, 2, 1, 0, 1, 1, 0, 6, 1, 0, 2, 1, 0, 5]],
        )

    def test_new_rows(self):
        self.assertEqual(
            self.changed(EXAMPLE, [0, 0], EXAMPLE_ROWS),
            [[0, 3, 0, 0, 1, 0, 0, 2, 0, 1, 7], [0, 3, 0, 0, 1, 5, 0, 0, 0, 2, 6, 1, 0, 1, 7, 2]],
        )

    def test_removed_rows(self):
        self.assertEqual(
            self.changed(EXAMPLE, EXAMPLE_ROWS, [0, 0]),
            [[0, 3, 2, 0, 1, 2, 0, 2, 2, 1, 7], [0, 3, 2, 0, 1, 2, 0, 2, 2, 1, 7]],
        )

    def test_rows_without_columns(self):
        self.assertEqual(
            self.changed("table p { }", [2, 3, 5], [2, 4, 5]),
            [[0, 2, 2, 0, 3, 0, 0, 4], [0, 2, 2, 0, 3, 0, 0, 4]],
        )

    def test_updates_tell_the_columns_that_are_other(self):
        for wished, pairs in (
            ([9, 2, 3], [1, 0, 9]), ([1, 9, 3], [1, 1, 9]), ([1, 2, -9], [1, 2, -9]),
            ([9, 2, 8], [2, 0, 9, 2, 8]), ([3, 1, 2], [3, 0, 3, 1, 1, 2, 2]),
        ):
            with self.subTest(wished=wished):
                self.assertEqual(
                    self.changed(THREE, [1, 6, 1, 2, 3, 0, 0], [1, 6] + wished + [0, 0]),
                    [[0, 1, 1, 0, 6], [0, 1, 1, 0, 6] + pairs],
                )

    def test_by_tables_then_by_ids(self):
        now = [2, 10, 1, 1, 1, 30, 2, 2, 2, 2, 1, 3, 2, 5, 0, 6, 0]
        wished = [3, 20, 4, 4, 4, 30, 2, 5, 2, 40, 0, 0, 0, 2, 2, 3, 2, 5, 0, 6, -1]
        self.assertEqual(
            self.changed(THREE, now, wished),
            [
                [0, 7, 2, 0, 10, 0, 0, 20, 1, 0, 30, 0, 0, 40, 2, 1, 1, 0, 1, 2, 1, 2, 6],
                [0, 7, 2, 0, 10, 0, 0, 20, 4, 4, 4, 1, 0, 30, 1, 1, 5, 0, 0, 40, 0, 0, 0,
                 2, 1, 1, 0, 1, 2, 1, 2, 6, 1, 0, -1],
            ],
        )

    def test_ids_stand_by_number_where_wished_rows_are_among_those_there(self):
        self.assertEqual(
            self.changed("table p { }", [3, 2, 9, 98], [3, 1, 10, 99])[0],
            [0, 6, 0, 0, 1, 2, 0, 2, 2, 0, 9, 0, 0, 10, 2, 0, 98, 0, 0, 99],
        )

    def test_most_changed_rows(self):
        schema = "table a { } table b { } table c { } table d { }"
        now = [8, 1, 2, 3, 4, 5, 6, 7, 8] * 4
        wished = [8, 11, 12, 13, 14, 15, 16, 17, 18] * 4
        told = self.changed(schema, now, wished)
        self.assertEqual([told[0][1], told[1][1]], [64, 64])

    def test_a_wish_that_goes_back_leaves_nothing_changed(self):
        told = last(load(EXAMPLE), fill(*EXAMPLE_ROWS), wish(*EXAMPLE_WISH), wish(*EXAMPLE_ROWS), CHANGED)
        self.assertEqual(told, [0, 0])

    def test_asking_changes_nothing(self):
        told = ask(load(EXAMPLE), fill(*EXAMPLE_ROWS), wish(*EXAMPLE_WISH), TABLES, CHANGED, DIRECT,
                   TABLES, CHANGED, DIRECT)
        self.assertEqual(told[-6:-3], told[-3:])


if __name__ == "__main__":
    unittest.main()
