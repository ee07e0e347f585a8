"""Promise 2: fill and wish, the rules, and what is refused; tables."""

import unittest

from asking import EXAMPLE, EXAMPLE_ROWS, EXAMPLE_WISH, TABLES, ask, fill, last, load, wish

NOT_OF_FORM = [-4]
FREE = "table p { a: number; }"
BARE = "table p { }"


class RowsCase(unittest.TestCase):
    def both(self, schema, rows, answer):
        """Fill and wish answer alike."""
        for call in (fill, wish):
            with self.subTest(call=call.__name__, schema=schema, rows=rows):
                self.assertEqual(last(load(schema), call(*rows)), answer)


class Form(RowsCase):
    def test_example(self):
        self.both(EXAMPLE, EXAMPLE_ROWS, [0])
        self.both(EXAMPLE, EXAMPLE_WISH, [0])

    def test_ahead_of_any_load(self):
        self.assertEqual(ask(fill(), wish(), fill(0), wish(0)), [[0], [0], NOT_OF_FORM, NOT_OF_FORM])

    def test_no_rows(self):
        self.both(BARE, [0], [0])
        self.both(EXAMPLE, [0, 0], [0])

    def test_too_short(self):
        for count in range(len(EXAMPLE_ROWS)):
            self.both(EXAMPLE, EXAMPLE_ROWS[:count], NOT_OF_FORM)

    def test_too_long(self):
        self.both(EXAMPLE, EXAMPLE_ROWS + [0], NOT_OF_FORM)
        self.both(EXAMPLE, [0, 0, 0], NOT_OF_FORM)
        self.both("", [0], NOT_OF_FORM)
        self.both(BARE, [0] * 5000, NOT_OF_FORM)

    def test_how_many_rows(self):
        self.both(BARE, [8, 1, 2, 3, 4, 5, 6, 7, 99], [0])
        self.both(BARE, [9, 1, 2, 3, 4, 5, 6, 7, 8, 9], NOT_OF_FORM)
        self.both(BARE, [-1], NOT_OF_FORM)
        self.both(BARE, [10 ** 18], NOT_OF_FORM)
        self.both(BARE, [-10 ** 18], NOT_OF_FORM)

    def test_ids(self):
        self.both(BARE, [2, 1, 99], [0])
        for ident in (0, -1, 100, 10 ** 18, -10 ** 18):
            self.both(BARE, [1, ident], NOT_OF_FORM)
        self.both(BARE, [2, 5, 5], NOT_OF_FORM)
        self.both(BARE, [2, 6, 5], NOT_OF_FORM)
        self.both(BARE, [2, 99, 100], NOT_OF_FORM)
        self.both("table p { } table q { }", [1, 9, 1, 2], [0])

    def test_values(self):
        self.both(FREE, [2, 1, -1000000, 2, 1000000], [0])
        for value in (-1000001, 1000001, 10 ** 18, -10 ** 18):
            self.both(FREE, [1, 1, value], NOT_OF_FORM)
            self.both("table p { a: ref p none; }", [1, 1, value], NOT_OF_FORM)

    def test_the_form_comes_ahead_of_the_rules(self):
        self.both("table p { a: number from 0 to 1; }", [2, 1, 5, 2, 1000001], NOT_OF_FORM)
        self.both("table p { a: number from 0 to 1; }", [1, 1, 5, 0], NOT_OF_FORM)


class Rules(RowsCase):
    def test_numbers_out_of_range(self):
        schema = "table p { a: number from -3 to 4; }"
        self.both(schema, [2, 1, -3, 2, 4], [0])
        self.both(schema, [2, 1, -3, 2, 5], [1, 2, 0, 2, 0])
        self.both(schema, [2, 1, -4, 2, 5], [1, 2, 0, 1, 0])

    def test_references_to_rows_that_are_not_there(self):
        schema = "table p { a: ref q; } table q { b: number; }"
        self.both(schema, [1, 7, 9, 1, 9, 7], [0])
        self.both(schema, [1, 7, 7, 1, 9, 7], [1, 3, 0, 7, 0])
        self.both(schema, [1, 7, 100, 1, 9, 7], [1, 3, 0, 7, 0])
        self.both(schema, [1, 7, 9, 0], [1, 3, 0, 7, 0])

    def test_references_to_its_own_table(self):
        schema = "table p { a: ref p; }"
        self.both(schema, [1, 4, 4], [0])
        self.both(schema, [2, 4, 5, 5, 4], [0])
        self.both(schema, [2, 4, 6, 5, 4], [1, 3, 0, 4, 0])

    def test_none(self):
        self.both("table p { a: ref p none; }", [1, 4, 0], [0])
        self.both("table p { a: ref p; }", [1, 4, 0], [1, 3, 0, 4, 0])
        self.both("table p { a: ref p cascade; }", [1, 4, 0], [1, 3, 0, 4, 0])

    def test_references_below_none(self):
        self.both("table p { a: ref p none; }", [1, 4, -1], [1, 3, 0, 4, 0])
        self.both("table p { a: ref p none unique; }", [1, 4, -4], [1, 3, 0, 4, 0])

    def test_unique_numbers(self):
        schema = "table p { a: number unique; }"
        self.both(schema, [3, 1, 5, 2, 0, 3, 6], [0])
        self.both(schema, [3, 1, 5, 2, 6, 3, 5], [1, 4, 0, 1, 0])
        self.both(schema, [3, 1, 7, 2, 0, 3, 0], [1, 4, 0, 2, 0])
        self.both("table p { a: number; }", [2, 1, 5, 2, 5], [0])

    def test_unique_values_are_a_columns_and_a_tables_own(self):
        schema = "table p { a: number unique; b: number unique; } table q { a: number unique; }"
        self.both(schema, [2, 1, 5, 6, 2, 6, 5, 1, 1, 5], [0])

    def test_unique_references(self):
        schema = "table p { a: ref p none unique; }"
        self.both(schema, [3, 1, 0, 2, 0, 3, 3], [0])
        self.both(schema, [3, 1, 0, 2, 3, 3, 3], [1, 4, 0, 2, 0])
        self.both("table p { a: ref p unique; }", [2, 1, 0, 2, 0], [1, 3, 0, 1, 0])

    def test_one_columns_range_and_row_come_ahead_of_its_uniqueness(self):
        self.both("table p { a: number from 0 to 4 unique; }", [2, 1, 5, 2, 5], [1, 2, 0, 1, 0])
        self.both("table p { a: ref p unique; }", [2, 1, 9, 2, 9], [1, 3, 0, 1, 0])

    def test_columns_in_order(self):
        schema = "table p { a: number unique; b: number from 0 to 4; c: ref p; }"
        self.both(schema, [2, 1, 5, 9, 9, 2, 5, 0, 1], [1, 4, 0, 1, 0])
        self.both(schema, [2, 1, 5, 9, 9, 2, 6, 0, 1], [1, 2, 0, 1, 1])
        self.both(schema, [2, 1, 5, 4, 9, 2, 6, 0, 1], [1, 3, 0, 1, 2])

    def test_ids_ahead_of_columns_and_tables_ahead_of_ids(self):
        schema = "table p { a: number from 0 to 4; b: ref q; } table q { a: number from 0 to 4; }"
        self.both(schema, [2, 7, 0, 0, 8, 5, 1, 1, 1, 5], [1, 3, 0, 7, 1])
        self.both(schema, [1, 8, 5, 1, 1, 1, 5], [1, 2, 0, 8, 0])
        self.both(schema, [1, 8, 4, 1, 1, 1, 5], [1, 2, 1, 1, 0])


class WhatIsHeld(unittest.TestCase):
    def test_tables_ahead_of_any_load(self):
        self.assertEqual(ask(TABLES), [[0]])

    def test_tables_after_a_load(self):
        self.assertEqual(last(load(EXAMPLE), TABLES), [0, 0, 0, 0, 0])

    def test_fill_sets_the_rows_and_what_is_wished(self):
        self.assertEqual(last(load(EXAMPLE), fill(*EXAMPLE_ROWS), TABLES), [0] + EXAMPLE_ROWS * 2)
        told = last(load(EXAMPLE), wish(*EXAMPLE_WISH), fill(*EXAMPLE_ROWS), TABLES)
        self.assertEqual(told, [0] + EXAMPLE_ROWS * 2)

    def test_wish_sets_what_is_wished_alone(self):
        told = last(load(EXAMPLE), fill(*EXAMPLE_ROWS), wish(*EXAMPLE_WISH), TABLES)
        self.assertEqual(told, [0] + EXAMPLE_ROWS + EXAMPLE_WISH)
        told = last(load(EXAMPLE), wish(*EXAMPLE_WISH), TABLES)
        self.assertEqual(told, [0, 0, 0] + EXAMPLE_WISH)

    def test_a_wish_takes_the_earlier_ones_place(self):
        told = last(load(BARE), fill(1, 1), wish(2, 1, 2), wish(1, 3), TABLES)
        self.assertEqual(told, [0, 1, 1, 1, 3])

    def test_a_wish_is_looked_at_without_the_rows_as_they_are(self):
        schema = "table p { a: ref p none; }"
        self.assertEqual(last(load(schema), fill(1, 1, 0), wish(1, 2, 1)), [1, 3, 0, 2, 0])

    def test_refusals_and_broken_rules_leave_it_as_it_was(self):
        ahead = (load(EXAMPLE), fill(*EXAMPLE_ROWS), wish(*EXAMPLE_WISH))
        before = [0] + EXAMPLE_ROWS + EXAMPLE_WISH
        for bad in ((), (0,), (0, 0, 0), (1, 1, 10, 0, 0), (1, 1, 9, 2, 0), (2, 1, 9, 0, 2, 9, 0, 0)):
            for call in (fill, wish):
                with self.subTest(call=call.__name__, rows=bad):
                    told = ask(*ahead, call(*bad), TABLES)
                    self.assertIn(told[-2][0], (-4, 1))
                    self.assertEqual(told[-1], before)

    def test_values_below_zero_are_told(self):
        self.assertEqual(last(load(FREE), fill(1, 1, -7), TABLES), [0, 1, 1, -7, 1, 1, -7])


if __name__ == "__main__":
    unittest.main()
