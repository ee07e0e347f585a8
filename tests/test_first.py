"""Promise 3: what is held back, two steps, and first what can be made."""

import unittest

from asking import SIZE, asked, first, joined

AGES = "table p { age: number from 0 to 9 unique; }"
BOSSES = "table p { boss: ref p none; }"


def swapped(schema, one, two):
    """The rows of a table whose rows 1 and 2 change places, for this schema."""
    return (schema, [2, 1, one, 2, two], [2, 1, two, 2, one])


class Spares(unittest.TestCase):
    def assert_first(self, setting, split, made, left=()):
        told = asked(*setting, first(*split))[0]
        self.assertEqual(told, [1 if left else 0, len(made)] + joined(*made) + list(left))

    def test_least_first(self):
        self.assert_first(swapped(AGES, 5, 6), [0], [[1, 0, 1, 1, 0, 0], [1, 0, 2, 1, 0, 5], [1, 0, 1, 1, 0, 6]])

    def test_the_second_changed_row_has_the_second_one(self):
        self.assert_first(swapped(AGES, 5, 6), [1], [[1, 0, 2, 1, 0, 1], [1, 0, 1, 1, 0, 6], [1, 0, 2, 1, 0, 5]])

    def test_taken_by_the_rows_themselves(self):
        self.assert_first(swapped(AGES, 0, 1), [0], [[1, 0, 1, 1, 0, 2], [1, 0, 2, 1, 0, 0], [1, 0, 1, 1, 0, 1]])
        self.assert_first(swapped(AGES, 1, 2), [1], [[1, 0, 2, 1, 0, 3], [1, 0, 1, 1, 0, 2], [1, 0, 2, 1, 0, 1]])

    def test_taken_by_a_row_that_is_not_changed(self):
        setting = (AGES, [3, 1, 5, 2, 6, 3, 0], [3, 1, 6, 2, 5, 3, 0])
        self.assert_first(setting, [0], [[1, 0, 1, 1, 0, 1], [1, 0, 2, 1, 0, 5], [1, 0, 1, 1, 0, 6]])

    def test_taken_now_alone(self):
        setting = (AGES, [3, 1, 5, 2, 6, 3, 0], [2, 1, 6, 2, 5])
        self.assert_first(setting, [0], [[1, 0, 1, 1, 0, 1], [1, 0, 2, 1, 0, 5], [1, 0, 1, 1, 0, 6], [2, 0, 3]])

    def test_taken_as_wished_alone(self):
        setting = (AGES, [2, 1, 5, 2, 6], [3, 1, 6, 2, 5, 3, 0])
        self.assert_first(setting, [0], [[1, 0, 1, 1, 0, 1], [1, 0, 2, 1, 0, 5], [1, 0, 1, 1, 0, 6], [0, 0, 3, 0]])

    def test_taken_in_another_column_or_table_is_free(self):
        schema = "table p { n: number unique; age: number from 0 to 9 unique; } table q { age: number unique; }"
        setting = (schema, [2, 1, 0, 5, 2, 1, 6, 1, 1, 0], [2, 1, 0, 6, 2, 1, 5, 1, 1, 0])
        self.assert_first(setting, [0], [[1, 0, 1, 1, 1, 0], [1, 0, 2, 1, 1, 5], [1, 0, 1, 1, 1, 6]])

    def test_counted_by_changed_rows_of_every_kind(self):
        setting = (AGES, [3, 1, 9, 2, 5, 3, 6], [2, 2, 6, 3, 5])
        self.assert_first(setting, [1], [[2, 0, 1], [1, 0, 2, 1, 0, 1], [1, 0, 3, 1, 0, 5], [1, 0, 2, 1, 0, 6]])
        setting = (AGES, [2, 2, 5, 3, 6], [3, 1, 9, 2, 6, 3, 5])
        self.assert_first(setting, [1], [[0, 0, 1, 9], [1, 0, 2, 1, 0, 1], [1, 0, 3, 1, 0, 5], [1, 0, 2, 1, 0, 6]])

    def test_counted_by_changed_rows_of_this_table_alone(self):
        setting = ("table q { } " + AGES, [0, 2, 1, 5, 2, 6], [1, 1, 2, 1, 6, 2, 5])
        self.assert_first(setting, [1], [[0, 0, 1], [1, 1, 1, 1, 0, 0], [1, 1, 2, 1, 0, 5], [1, 1, 1, 1, 0, 6]])

    def test_not_counted_by_rows_that_stay(self):
        setting = (AGES, [3, 1, 9, 2, 5, 3, 6], [3, 1, 9, 2, 6, 3, 5])
        self.assert_first(setting, [0], [[1, 0, 2, 1, 0, 0], [1, 0, 3, 1, 0, 5], [1, 0, 2, 1, 0, 6]])

    def test_the_least_value_of_a_column_without_from(self):
        self.assert_first(
            swapped("table p { age: number unique; }", 5, 6), [0],
            [[1, 0, 1, 1, 0, -1000000], [1, 0, 2, 1, 0, 5], [1, 0, 1, 1, 0, 6]],
        )

    def test_the_greatest_one_may_be_spare(self):
        self.assert_first(
            swapped("table p { age: number from -7 to -5 unique; }", -7, -6), [0],
            [[1, 0, 1, 1, 0, -5], [1, 0, 2, 1, 0, -7], [1, 0, 1, 1, 0, -6]],
        )

    def test_fewer_spares_than_changed_rows(self):
        setting = swapped("table p { age: number from 0 to 2 unique; }", 0, 1)
        self.assertEqual(asked(*setting, SIZE, first(1), first(0, 1)), [[0, 2, 1], [-12], [-12]])
        self.assert_first(setting, [0], [[1, 0, 1, 1, 0, 2], [1, 0, 2, 1, 0, 0], [1, 0, 1, 1, 0, 1]])

    def test_no_spares(self):
        setting = swapped("table p { age: number from 0 to 1 unique; }", 0, 1)
        self.assertEqual(asked(*setting, SIZE, first(0), first(1)), [[0, 2, 0], [-12], [-12]])

    def test_behind_sixteen_taken_ones(self):
        now = [8] + [number for ident in range(1, 9) for number in (ident, ident - 1)]
        wished = [8] + [number for ident in range(1, 9) for number in (ident, ident + 7)]
        setting = ("table p { age: number from 0 to 99 unique; }", now, wished)
        made = []
        for ident in range(1, 9):
            made.extend([[1, 0, ident, 1, 0, ident + 15], [1, 0, ident, 1, 0, ident + 7]])
        self.assert_first(setting, range(8), made)

    def test_at_most_eight(self):
        schema = "table p { age: number from 0 to 99 unique; }"
        low = [8] + [number for ident in range(1, 9) for number in (ident, ident)]
        high = [8] + [number for ident in range(9, 17) for number in (ident, ident)]
        odd = [8] + [number for ident in range(1, 17, 2) for number in (ident, ident)]
        even = [8] + [number for ident in range(2, 17, 2) for number in (ident, ident)]
        self.assertEqual(asked(schema, low, high, SIZE), [[0, 16, 0]])
        self.assertEqual(asked(schema, high, low, SIZE), [[0, 16, 8]])
        self.assertEqual(asked(schema, even, odd, SIZE), [[0, 16, 4]])

    def test_only_the_first_thirty_two_are_looked_at(self):
        # Sixteen may be taken at most, so what lies behind the first 24 is never needed.
        schema = "table p { age: number from 0 to 23 unique; }"
        taken = [8] + [number for ident in range(2, 10) for number in (ident, ident * 2)]
        wished = [8] + [number for ident in range(2, 10) for number in (ident, ident * 2 + 1)]
        made = []
        for number, spare in enumerate((0, 1, 2, 3, 20, 21, 22, 23)):
            ident = number + 2
            made.extend([[1, 0, ident, 1, 0, spare], [1, 0, ident, 1, 0, ident * 2 + 1]])
        self.assert_first((schema, taken, wished), range(8), made)


class TwoSteps(unittest.TestCase):
    def told(self, schema, now, wished, *split):
        return asked(schema, now, wished, first(*split))[0]

    def size(self, schema, now, wished):
        return asked(schema, now, wished, SIZE)[0]

    def test_a_new_row(self):
        self.assertEqual(
            self.told(BOSSES, [0], [2, 1, 2, 2, 1], 0), [0, 3] + joined([0, 0, 1, 0], [0, 0, 2, 1], [1, 0, 1, 1, 0, 2])
        )

    def test_a_new_row_has_all_held_back_that_can_be(self):
        schema = (
            "table p { a: ref p none; n: number from 0 to 9; u: number from 3 to 9 unique; c: ref p none clear unique; }"
        )
        self.assertEqual(
            self.told(schema, [0], [1, 4, 4, 8, 9, 4], 0),
            [0, 2] + joined([0, 0, 4, 0, 8, 3, 0], [1, 0, 4, 3, 0, 4, 2, 9, 3, 4]),
        )

    def test_a_new_rows_value_that_is_wished_to_be_just_that(self):
        self.assertEqual(self.size(BOSSES, [0], [1, 1, 0]), [0, 1, 0])
        self.assertEqual(self.told(BOSSES, [0], [1, 1, 0], 0), [-12])
        schema = "table p { u: number from 3 to 9 unique; a: ref p none; }"
        self.assertEqual(
            self.told(schema, [0], [1, 1, 7, 0], 0), [0, 2] + joined([0, 0, 1, 3, 0], [1, 0, 1, 1, 0, 7])
        )

    def test_new_rows_that_cannot_be(self):
        for schema, now, wished in (
            ("table p { }", [0], [1, 1]),
            ("table p { n: number; }", [0], [1, 1, 7]),
            ("table p { n: number from 0 to 0 unique; }", [0], [1, 1, 0]),
            ("table p { of: ref p; }", [0], [1, 1, 1]),
            ("table p { of: ref p unique; }", [0], [1, 1, 1]),
            ("table p { of: ref p cascade; }", [0], [1, 1, 1]),
        ):
            with self.subTest(schema=schema):
                self.assertEqual(self.size(schema, now, wished), [0, 1, 0])
                self.assertEqual(self.told(schema, now, wished, 0), [-12])

    def test_an_other_row(self):
        schema = "table p { n: number; u: number from 0 to 9 unique; r: ref p none; s: ref p none; }"
        self.assertEqual(
            self.told(schema, [1, 1, 4, 5, 1, 1], [1, 1, 8, 6, 0, 1], 0),
            [0, 2] + joined([1, 0, 1, 3, 0, 8, 1, 0, 2, 0], [1, 0, 1, 1, 1, 6]),
        )

    def test_an_other_row_whose_reference_was_none(self):
        self.assertEqual(
            self.told(BOSSES, [1, 1, 0], [1, 1, 1], 0), [0, 2] + joined([1, 0, 1, 1, 0, 0], [1, 0, 1, 1, 0, 1])
        )

    def test_an_other_row_that_waits_for_a_new_one(self):
        self.assertEqual(
            self.told(BOSSES, [2, 1, 2, 2, 0], [3, 1, 3, 2, 0, 3, 1], 0),
            [0, 3] + joined([1, 0, 1, 1, 0, 0], [0, 0, 3, 1], [1, 0, 1, 1, 0, 3]),
        )

    def test_other_rows_that_cannot_be(self):
        for schema, now, wished in (
            ("table p { n: number; }", [1, 1, 7], [1, 1, 8]),
            ("table p { n: number; u: number unique; r: ref p none; }", [1, 1, 7, 5, 1], [1, 1, 8, 5, 1]),
            (BOSSES, [1, 1, 1], [1, 1, 0]),
            ("table p { of: ref p; }", [2, 1, 1, 2, 2], [2, 1, 2, 2, 2]),
            ("table p { of: ref p cascade; }", [2, 1, 1, 2, 2], [2, 1, 2, 2, 2]),
            ("table p { u: number from 1 to 2 unique; }", [1, 1, 1], [1, 1, 2]),
        ):
            with self.subTest(schema=schema):
                self.assertEqual(self.size(schema, now, wished), [0, 1, 0])
                self.assertEqual(self.told(schema, now, wished, 0), [-12])

    def test_a_removed_row(self):
        self.assertEqual(
            self.told(BOSSES, [2, 1, 2, 2, 1], [0], 0), [0, 3] + joined([1, 0, 1, 1, 0, 0], [2, 0, 2], [2, 0, 1])
        )

    def test_a_removed_row_that_refers_to_itself(self):
        self.assertEqual(self.told(BOSSES, [1, 1, 1], [0], 0), [0, 2] + joined([1, 0, 1, 1, 0, 0], [2, 0, 1]))

    def test_a_removed_row_has_all_such_columns_updated(self):
        schema = "table p { a: ref p none; b: ref p; c: ref p none cascade; d: ref p none clear unique; }"
        self.assertEqual(
            self.told(schema, [2, 1, 1, 1, 2, 2, 2, 0, 2, 0, 0], [1, 2, 0, 2, 0, 0], 0),
            [0, 2] + joined([1, 0, 1, 3, 0, 0, 2, 0, 3, 0], [2, 0, 1]),
        )
        self.assertEqual(
            self.told(schema, [2, 1, 0, 1, 2, 0, 2, 0, 2, 0, 0], [1, 2, 0, 2, 0, 0], 0),
            [0, 2] + joined([1, 0, 1, 1, 2, 0], [2, 0, 1]),
        )

    def test_removed_rows_that_cannot_be(self):
        for schema, now, wished in (
            ("table p { }", [1, 1], [0]),
            (BOSSES, [1, 1, 0], [0]),
            ("table p { n: number unique; }", [1, 1, 7], [0]),
            ("table p { of: ref p; }", [1, 1, 1], [0]),
            ("table p { of: ref p cascade; }", [1, 1, 1], [0]),
        ):
            with self.subTest(schema=schema):
                self.assertEqual(self.size(schema, now, wished), [0, 1, 0])
                self.assertEqual(self.told(schema, now, wished, 0), [-12])


class FirstWhatCanBeMade(unittest.TestCase):
    def told(self, schema, now, wished, *split):
        return asked(schema, now, wished, first(*split))[0]

    def test_nothing_changed(self):
        self.assertEqual(self.told(AGES, [0], [0]), [0, 0])

    def test_by_numbers_where_all_can_be_made(self):
        schema = AGES + " table q { }"
        self.assertEqual(
            self.told(schema, [2, 1, 5, 2, 6, 1, 1], [2, 2, 7, 3, 8, 1, 2]),
            [0, 5] + joined([2, 0, 1], [1, 0, 2, 1, 0, 7], [0, 0, 3, 8], [2, 1, 1], [0, 1, 2]),
        )

    def test_from_the_first_row_again_behind_each_statement(self):
        chain = [5, 1, 2, 2, 3, 3, 0, 4, 2, 5, 0]
        self.assertEqual(
            self.told(BOSSES, [0], chain),
            [0, 5] + joined([0, 0, 3, 0], [0, 0, 2, 3], [0, 0, 1, 2], [0, 0, 4, 2], [0, 0, 5, 0]),
        )

    def test_a_second_step_ahead_of_later_rows(self):
        self.assertEqual(
            self.told(AGES, [0], [2, 1, 5, 2, 6], 0, 1),
            [0, 4] + joined([0, 0, 1, 0], [1, 0, 1, 1, 0, 5], [0, 0, 2, 1], [1, 0, 2, 1, 0, 6]),
        )

    def test_a_second_step_that_waits(self):
        self.assertEqual(
            self.told(BOSSES, [0], [2, 1, 2, 2, 1], 0, 1),
            [0, 4] + joined([0, 0, 1, 0], [0, 0, 2, 0], [1, 0, 1, 1, 0, 2], [1, 0, 2, 1, 0, 1]),
        )

    def test_left_rows_behind_what_is_made(self):
        self.assertEqual(
            self.told(BOSSES, [0], [4, 1, 0, 2, 3, 3, 2, 4, 1]), [1, 2] + joined([0, 0, 1, 0], [0, 0, 4, 1]) + [1, 2]
        )

    def test_a_row_whose_second_step_is_left(self):
        schema = BOSSES + " table q { on: ref q; of: ref p none; }"
        self.assertEqual(
            self.told(schema, [0, 0], [1, 1, 0, 2, 1, 2, 1, 2, 1, 1]), [1, 1] + [0, 0, 1, 0] + [1, 2]
        )
        schema = "table q { of: ref p none; } table p { of: ref p; }"
        self.assertEqual(
            self.told(schema, [0, 0], [1, 1, 1, 2, 1, 2, 2, 1], 0), [1, 1] + [0, 0, 1, 0] + [0, 1, 2]
        )

    def test_an_insert_of_a_row_that_refers_to_itself(self):
        self.assertEqual(self.told("table r { of: ref r; }", [0], [1, 1, 1]), [0, 1, 0, 0, 1, 1])

    def test_an_insert_that_waits_for_a_unique_value(self):
        self.assertEqual(
            self.told(AGES, [1, 2, 5], [1, 1, 5]), [0, 2] + joined([2, 0, 2], [0, 0, 1, 5])
        )
        self.assertEqual(
            self.told(AGES, [1, 2, 5], [2, 1, 5, 2, 6]), [0, 2] + joined([1, 0, 2, 1, 0, 6], [0, 0, 1, 5])
        )

    def test_an_insert_into_a_table_of_eight_rows(self):
        full = [8] + list(range(2, 10))
        self.assertEqual(
            self.told("table p { }", full, [8, 1] + list(range(3, 10))), [0, 2] + joined([2, 0, 2], [0, 0, 1])
        )
        self.assertEqual(
            self.told("table p { }", full, [8, 1] + list(range(2, 9))), [0, 2] + joined([2, 0, 9], [0, 0, 1])
        )

    def test_an_insert_of_an_eighth_row(self):
        self.assertEqual(
            self.told("table p { }", [7] + list(range(2, 9)), [7, 1] + list(range(2, 8))),
            [0, 2] + joined([0, 0, 1], [2, 0, 8]),
        )

    def test_a_delete_waits_until_no_other_row_refers_to_the_row(self):
        for removal in ("", " cascade"):
            with self.subTest(removal=removal):
                schema = "table p { } table q { of: ref p" + removal + "; }"
                self.assertEqual(
                    self.told(schema, [1, 1, 2, 1, 1, 2, 1], [0, 0]), [0, 3] + joined([2, 1, 1], [2, 1, 2], [2, 0, 1])
                )

    def test_a_delete_waits_for_updates_too(self):
        for removal in ("", " cascade", " clear"):
            with self.subTest(removal=removal):
                schema = "table p { } table q { of: ref p none" + removal + "; }"
                self.assertEqual(
                    self.told(schema, [1, 1, 1, 5, 1], [0, 1, 5, 0]), [0, 2] + joined([1, 1, 5, 1, 0, 0], [2, 0, 1])
                )

    def test_a_delete_of_a_row_that_refers_to_itself_alone(self):
        for removal in ("", " cascade"):
            with self.subTest(removal=removal):
                self.assertEqual(
                    self.told("table r { of: ref r" + removal + "; }", [1, 3, 3], [0]), [0, 1, 2, 0, 3]
                )

    def test_a_number_like_the_rows_id_is_no_reference(self):
        self.assertEqual(
            self.told("table p { n: number; } table q { n: number; }", [2, 1, 2, 2, 1, 1, 1, 1], [0, 1, 1, 1]),
            [0, 2] + joined([2, 0, 1], [2, 0, 2]),
        )

    def test_the_same_id_in_another_table_is_another_row(self):
        schema = "table p { of: ref p none; } table q { of: ref p; }"
        self.assertEqual(
            self.told(schema, [1, 3, 3, 1, 3, 3], [0, 0]), [0, 2] + joined([2, 1, 3], [2, 0, 3])
        )
        schema = "table p { } table q { } table r { of: ref q; }"
        self.assertEqual(
            self.told(schema, [1, 3, 1, 3, 1, 3, 3], [0, 1, 3, 1, 3, 3]), [0, 1] + [2, 0, 3]
        )

    def test_removed_rows_that_refer_to_each_other(self):
        for kind in ("ref p", "ref p cascade", "ref p none", "ref p none cascade", "ref p none clear"):
            with self.subTest(kind=kind):
                schema = "table p { of: " + kind + "; }"
                self.assertEqual(self.told(schema, [2, 1, 2, 2, 1], [0]), [1, 0, 0, 1])

    def test_more_rows_in_two_steps_may_do_worse(self):
        schema = "table p { a: number from 0 to 99 unique; } table q { of: ref p; }"
        stay = [number for ident in range(3, 9) for number in (ident, ident)]
        setting = (schema, [7] + stay + [9, 9, 1, 1, 9], [8, 1, 9, 2, 2] + stay + [1, 1, 2])
        self.assertEqual(
            self.told(*setting), [0, 4] + joined([0, 0, 2, 2], [1, 1, 1, 1, 0, 2], [2, 0, 9], [0, 0, 1, 9])
        )
        self.assertEqual(self.told(*setting, 0), [1, 1] + [0, 0, 1, 0] + [0, 1, 2, 3])
        self.assertEqual(self.told(*setting, 0, 1), [1, 1] + [0, 0, 1, 0] + [0, 1, 2, 3])


if __name__ == "__main__":
    unittest.main()
