"""Promise 4: statements that are handed in, of their form or not, and checked."""

import unittest

from asking import (
    CHANGED, EXAMPLE, EXAMPLE_ROWS, EXAMPLE_WISH, TABLES, ask, asked, check, fill, joined, load, wish,
)

FOUR = "table p { a: number; b: number; c: number; d: number; } table q { } table r { of: ref r none; }"
RULES = "table p { age: number from 0 to 9 unique; of: ref p none; } table q { of: ref p; }"
RULES_ROWS = [2, 1, 5, 0, 2, 6, 0, 1, 7, 1]


class Checked(unittest.TestCase):
    def checked(self, schema, now, wished, *statements):
        return asked(schema, now, wished, check(*joined(*statements)))[0]

    def made(self, *statements):
        """What is answered for statements on rows of which nothing is wished to change."""
        return self.checked(RULES, RULES_ROWS, RULES_ROWS, *statements)

    def test_the_empty_list(self):
        self.assertEqual(ask(check()), [[0]])
        self.assertEqual(self.made(), [0])
        self.assertEqual(self.checked(EXAMPLE, EXAMPLE_ROWS, EXAMPLE_WISH), [2])

    def test_as_wished_at_the_end(self):
        self.assertEqual(
            self.checked(
                EXAMPLE, EXAMPLE_ROWS, EXAMPLE_WISH,
                [1, 0, 2, 1, 0, 9], [1, 0, 1, 1, 0, 6], [1, 0, 2, 1, 0, 5],
            ),
            [0],
        )
        self.assertEqual(
            self.checked(RULES, RULES_ROWS, [1, 3, 0, 3, 0], [0, 0, 3, 0, 3], [2, 1, 7], [2, 0, 2], [2, 0, 1]), [0]
        )

    def test_a_detour(self):
        self.assertEqual(self.made([0, 0, 3, 7, 1], [1, 0, 3, 1, 0, 8], [2, 0, 3]), [0])

    def test_not_as_wished_at_the_end(self):
        self.assertEqual(self.made([1, 0, 1, 1, 0, 7]), [2])
        self.assertEqual(self.made([0, 0, 3, 7, 0]), [2])
        self.assertEqual(self.made([2, 0, 2]), [2])
        self.assertEqual(self.checked(EXAMPLE, EXAMPLE_ROWS, EXAMPLE_WISH, [1, 0, 1, 1, 0, 0], [1, 0, 2, 1, 0, 5]), [2])

    def test_the_number_of_the_first_that_cannot_be_made(self):
        no = [2, 0, 9]
        yes = [1, 0, 1, 1, 0, 7]
        self.assertEqual(self.made(no), [1, 0])
        self.assertEqual(self.made(yes, no), [1, 1])
        self.assertEqual(self.made(yes, yes, no, yes, no), [1, 2])
        self.assertEqual(self.made(*([yes] * 39 + [no])), [1, 39])
        self.assertEqual(
            self.checked(EXAMPLE, EXAMPLE_ROWS, EXAMPLE_WISH, [1, 0, 1, 1, 0, 6], [1, 0, 2, 1, 0, 5]), [1, 0]
        )

    def test_statements_stand_on_those_ahead(self):
        self.assertEqual(self.made([0, 0, 4, 7, 3]), [1, 0])
        self.assertEqual(self.made([0, 0, 3, 8, 0], [0, 0, 4, 7, 3]), [2])
        self.assertEqual(self.made([0, 0, 3, 8, 0], [0, 0, 3, 7, 0]), [1, 1])
        self.assertEqual(self.made([1, 0, 1, 1, 0, 4], [1, 0, 2, 1, 0, 5]), [2])

    def test_inserts_that_cannot_be_made(self):
        for statement in (
            [0, 0, 1, 7, 0], [0, 0, 1, 5, 0], [0, 0, 3, 10, 0], [0, 0, 3, -1, 0], [0, 0, 3, 7, 4], [0, 0, 3, 7, -1],
            [0, 0, 3, 5, 0], [0, 1, 8, 0], [0, 1, 8, 3], [0, 1, 7, 2],
        ):
            with self.subTest(statement=statement):
                self.assertEqual(self.made(statement), [1, 0])

    def test_inserts_that_can_be_made(self):
        for statement in (
            [0, 0, 3, 0, 0], [0, 0, 3, 9, 0], [0, 0, 3, 7, 3], [0, 0, 3, 7, 1], [0, 1, 8, 1], [0, 1, 1, 1],
            [0, 0, 99, 7, 0],
        ):
            with self.subTest(statement=statement):
                self.assertEqual(self.made(statement), [2])

    def test_an_insert_into_a_table_of_eight_rows(self):
        full = [8, 1, 2, 3, 4, 5, 6, 7, 8]
        self.assertEqual(self.checked("table p { }", full, full, [0, 0, 9]), [1, 0])
        self.assertEqual(self.checked("table p { }", full, full, [2, 0, 8], [0, 0, 9]), [2])
        self.assertEqual(self.checked("table p { }", [1, 1], full, *[[0, 0, ident] for ident in range(2, 9)]), [0])

    def test_updates_that_cannot_be_made(self):
        for statement in (
            [1, 0, 3, 1, 0, 7], [1, 0, 3, 0], [1, 0, 1, 1, 0, 6], [1, 0, 1, 1, 0, 10], [1, 0, 1, 1, 0, -1],
            [1, 0, 1, 1, 1, 3], [1, 0, 1, 1, 1, -2], [1, 1, 7, 1, 0, 0], [1, 1, 7, 1, 0, 7], [1, 0, 1, 2, 0, 7, 1, 3],
        ):
            with self.subTest(statement=statement):
                self.assertEqual(self.made(statement), [1, 0])

    def test_updates_that_can_be_made(self):
        for statement in ([1, 0, 1, 1, 0, 7], [1, 0, 1, 1, 1, 1], [1, 0, 1, 2, 0, 0, 1, 2], [1, 1, 7, 1, 0, 2]):
            with self.subTest(statement=statement):
                self.assertEqual(self.made(statement), [2])
        for statement in ([1, 0, 1, 0], [1, 0, 1, 1, 0, 5], [1, 0, 1, 2, 0, 5, 1, 0]):
            with self.subTest(statement=statement):
                self.assertEqual(self.made(statement), [0])

    def test_columns_of_an_update_in_any_order(self):
        self.assertEqual(
            self.checked(
                FOUR, [1, 1, 1, 2, 3, 4, 0, 0], [1, 1, 5, 6, 7, 8, 0, 0], [1, 0, 1, 4, 3, 8, 1, 6, 0, 5, 2, 7]
            ),
            [0],
        )

    def test_deletes_that_cannot_be_made(self):
        self.assertEqual(self.made([2, 0, 3]), [1, 0])
        self.assertEqual(self.made([2, 0, 1]), [1, 0])
        self.assertEqual(self.made([2, 1, 7], [2, 0, 1]), [2])

    def test_deletes_take_nothing_along(self):
        for kind in ("ref p", "ref p cascade", "ref p none", "ref p none cascade", "ref p none clear"):
            with self.subTest(kind=kind):
                schema = "table p { } table q { of: " + kind + "; }"
                self.assertEqual(self.checked(schema, [1, 1, 1, 7, 1], [0, 0], [2, 0, 1]), [1, 0])
                self.assertEqual(self.checked(schema, [1, 1, 1, 7, 1], [0, 0], [2, 1, 7], [2, 0, 1]), [0])

    def test_a_delete_of_a_row_that_refers_to_itself(self):
        self.assertEqual(self.checked("table p { of: ref p; }", [1, 1, 1], [0], [2, 0, 1]), [0])
        self.assertEqual(self.checked("table p { of: ref p; }", [2, 1, 1, 2, 1], [0], [2, 0, 1], [2, 0, 2]), [1, 0])

    def test_any_count_of_changed_rows(self):
        statements = [[0, 0, ident] for ident in range(1, 9)] + [[0, 1, ident] for ident in range(1, 9)]
        wished = [8, 1, 2, 3, 4, 5, 6, 7, 8] * 2
        self.assertEqual(self.checked("table p { } table q { }", [0, 0], wished, *statements), [0])

    def test_checking_changes_nothing(self):
        calls = [load(EXAMPLE), fill(*EXAMPLE_ROWS), wish(*EXAMPLE_WISH), TABLES, CHANGED]
        tried = [check(1, 0, 1, 1, 0, 0), check(1, 0, 1, 1, 0, 0, 2, 0, 1), check(2, 1, 7), check(9)]
        told = ask(*calls, *tried, TABLES, CHANGED)
        self.assertEqual(told[5:9], [[2], [1, 1], [2], [-7]])
        self.assertEqual(told[3:5], told[9:])


class Form(unittest.TestCase):
    ROWS = [1, 1, 1, 2, 3, 4, 1, 1, 1, 1, 0]

    def checked(self, *numbers):
        return asked(FOUR, self.ROWS, self.ROWS, check(*numbers))[0]

    def assert_not_of_form(self, *lists):
        for numbers in lists:
            with self.subTest(numbers=numbers):
                self.assertEqual(self.checked(*numbers), [-7])

    def assert_of_form(self, *lists):
        for numbers in lists:
            with self.subTest(numbers=numbers):
                self.assertNotEqual(self.checked(*numbers), [-7])

    def test_kinds(self):
        self.assert_of_form([0, 1, 5], [1, 1, 1, 0], [2, 1, 1])
        self.assert_not_of_form([3, 1, 1], [-1, 1, 1], [10 ** 18, 1, 1], [2, 1, 1, 3, 1, 1])

    def test_tables(self):
        self.assert_of_form([2, 0, 1], [2, 1, 1], [2, 2, 1])
        self.assert_not_of_form([2, 3, 1], [2, -1, 1], [0, 3, 1], [1, 3, 1, 0], [1, -1, 1, 0])
        self.assertEqual(ask(check(2, 0, 1), check(0, 0, 1), check(1, 0, 1, 0)), [[-7], [-7], [-7]])

    def test_ids(self):
        self.assert_of_form([2, 1, 1], [2, 1, 99], [0, 1, 99], [1, 1, 99, 0])
        self.assert_not_of_form(
            [2, 1, 0], [2, 1, 100], [2, 1, -1], [0, 1, 0], [0, 1, 100], [1, 1, 0, 0], [1, 1, 100, 0]
        )

    def test_columns(self):
        self.assert_of_form([1, 0, 1, 1, 3, 0], [1, 2, 1, 1, 0, 0], [1, 0, 1, 4, 0, 0, 1, 0, 2, 0, 3, 0])
        self.assert_not_of_form(
            [1, 0, 1, 1, 4, 0], [1, 0, 1, 1, -1, 0], [1, 2, 1, 1, 1, 0], [1, 1, 1, 1, 0, 0], [1, 0, 1, 2, 0, 0, 4, 0]
        )

    def test_a_column_twice(self):
        self.assert_not_of_form(
            [1, 0, 1, 2, 0, 5, 0, 6], [1, 0, 1, 2, 3, 5, 3, 5], [1, 0, 1, 3, 0, 5, 1, 5, 0, 5],
            [1, 0, 1, 4, 0, 0, 1, 0, 2, 0, 1, 0], [1, 2, 1, 2, 0, 0, 0, 0],
        )
        self.assert_of_form([1, 0, 1, 1, 0, 5, 1, 0, 1, 1, 0, 6])

    def test_how_many_columns(self):
        self.assert_of_form([1, 0, 1, 0], [1, 1, 1, 0])
        self.assert_not_of_form([1, 0, 1, -1], [1, 0, 1, 5, 0, 0, 1, 0, 2, 0, 3, 0, 4, 0], [1, 0, 1, 10 ** 18])

    def test_values(self):
        self.assert_of_form(
            [1, 0, 1, 1, 0, 1000000], [1, 0, 1, 1, 0, -1000000], [0, 0, 2, 1000000, -1000000, 0, 0],
            [1, 2, 1, 1, 0, -1000000], [0, 2, 1, 1000000],
        )
        self.assert_not_of_form(
            [1, 0, 1, 1, 0, 1000001], [1, 0, 1, 1, 0, -1000001], [0, 0, 2, 0, 0, 0, 1000001],
            [0, 0, 2, -1000001, 0, 0, 0], [1, 2, 1, 1, 0, 1000001], [0, 2, 1, -1000001],
        )

    def test_a_list_that_ends_within_a_statement(self):
        for whole in ([0, 0, 2, 5, 6, 7, 8], [1, 0, 1, 2, 0, 5, 1, 6], [2, 0, 1]):
            for length in range(1, len(whole)):
                self.assert_not_of_form(whole[:length], [2, 1, 1] + whole[:length])
            self.assert_of_form(whole, [2, 1, 1] + whole)

    def test_something_else_behind(self):
        self.assert_not_of_form([2, 0, 1, 0], [2, 0, 1, 1], [0, 1, 5, 7], [1, 1, 1, 0, 9])

    def test_forty_statements(self):
        self.assertEqual(self.checked(*[1, 0, 1, 0] * 40), [0])
        self.assertEqual(self.checked(*[1, 0, 1, 0] * 41), [-7])
        self.assertEqual(self.checked(*[2, 0, 9] * 40), [1, 0])
        self.assertEqual(self.checked(*[2, 0, 9] * 41), [-7])
        self.assertEqual(self.checked(*[1, 0, 1, 0] * 1250), [-7])

    def test_the_form_goes_ahead_of_what_can_be_made(self):
        self.assertEqual(self.checked(2, 0, 9), [1, 0])
        self.assertEqual(self.checked(2, 0, 9, 3), [-7])
        self.assertEqual(self.checked(2, 0, 9, 2, 0, 100), [-7])


if __name__ == "__main__":
    unittest.main()
