"""Promise 1: load, the first fault of a text, and its two refusals."""

import unittest

from asking import EXAMPLE, EXAMPLE_ROWS, EXAMPLE_WISH, TABLES, WRITTEN, ask, fill, last, load, wish

UNKNOWN, MALFORMED, MISPLACED, ENDED, TOO_MANY, TWICE, NO_TABLE, CONTRARY = range(1, 9)
FOUR_COLUMNS = "table p { a: number; b: number; c: number; d: number; "
FOUR_TABLES = "table a { } table b { } table c { } table d { } "


class LoadCase(unittest.TestCase):
    def good(self, text, tables, columns):
        with self.subTest(text=text):
            self.assertEqual(last(load(text)), [0, tables, columns])

    def faulty(self, kind, marked):
        """The sign ^ marks the place at which the fault is, and isn't part of the text."""
        place = marked.index("^")
        text = marked[:place] + marked[place + 1:]
        with self.subTest(text=text):
            self.assertEqual(last(load(text)), [1, kind, place])


class GoodTexts(LoadCase):
    def test_example(self):
        self.good(EXAMPLE, 2, 3)

    def test_nothing_to_read(self):
        for text in ("", " ", "\t\n\r ", "#", "# a remark", "# one\n# two", "#\n"):
            self.good(text, 0, 0)

    def test_no_columns(self):
        self.good("table p { }", 1, 0)
        self.good("table p{}table q{}", 2, 0)

    def test_most_tables_and_columns(self):
        self.good(FOUR_TABLES, 4, 0)
        self.good(FOUR_COLUMNS + "}", 1, 4)
        four = "{ a: number; b: number; c: number; d: number; }"
        self.good("table k %s table l %s table m %s table n %s" % (four, four, four, four), 4, 16)

    def test_kinds(self):
        for kind in (
            "number", "number unique", "number from 0 to 0", "number from -1 to 1 unique",
            "number from - 1000000 to 1000000", "number from -5 to -5", "number from -0 to 0",
            "ref p", "ref p none", "ref p cascade", "ref p none cascade", "ref p none clear",
            "ref p unique", "ref p none unique", "ref p cascade unique", "ref p none clear unique",
        ):
            self.good("table p { a: %s; }" % kind, 1, 1)

    def test_blanks_and_remarks_part_tokens(self):
        self.good("\ttable\rp\n{#x\na#y\n:#;}\nnumber from 0to 9unique;}# end", 1, 1)
        self.good("table p { # }\xff\x00 A table _\n }", 1, 0)
        self.good("# caf\xe9\r still a remark\n table p { }", 1, 0)

    def test_words_and_numbers_at_their_edges(self):
        self.good("table abcdefghij_9 { a: number from 0 to 1000000; }", 1, 1)
        self.good("table a_ { z0_: number from -1000000 to 999999; }", 1, 1)

    def test_words_like_the_nine(self):
        self.good("table tables { refs: number; fromm: ref tables; to1: number; none_: number; }", 1, 4)

    def test_a_name_may_be_a_tables_and_a_columns(self):
        self.good("table p { p: ref p; q: number; } table q { p: number; q: ref q; }", 2, 4)

    def test_references_to_this_and_to_later_tables(self):
        self.good("table p { a: ref q; b: ref p; } table q { a: ref p; }", 2, 3)

    def test_longest_text(self):
        self.good("table p { }".ljust(4096), 1, 0)
        self.good("#" * 4096, 0, 0)


class TokenFaults(LoadCase):
    def test_bytes_that_begin_no_token(self):
        meant = b"\t\n\r #-:;{}abcdefghijklmnopqrstuvwxyz0123456789"
        for byte in range(256):
            if byte not in meant and byte != ord("^"):
                self.faulty(UNKNOWN, "table p {  ^" + chr(byte))
        self.assertEqual(last(load("table p { ^")), [1, UNKNOWN, 10])

    def test_bytes_that_begin_no_token_at_edges(self):
        self.faulty(UNKNOWN, "^_")
        self.faulty(UNKNOWN, "^A")
        self.faulty(UNKNOWN, "table p { }^.")
        self.faulty(UNKNOWN, "table p^P { }")
        self.faulty(UNKNOWN, "table p { a: number from 1^_ to 2; }")

    def test_every_byte_counts_in_a_place(self):
        self.good("table\tp\t{\t}\t", 1, 0)
        self.faulty(UNKNOWN, "\ttable\tp\t{\t}\t^!")
        self.faulty(UNKNOWN, "\rtable\rp\r{\r}\r^!")
        self.faulty(UNKNOWN, "\n\n #\t\r\xff\x00\n table p { } ^!")

    def test_long_words(self):
        self.faulty(MALFORMED, "table ^abcdefghijklm { }")
        self.faulty(MALFORMED, "table ^abcdefghij_99 { }")
        self.faulty(MALFORMED, "  ^tableabcdefghi p")
        self.faulty(MALFORMED, "table p { a: ref ^ppppppppppppp; }")

    def test_wrong_numbers(self):
        for number in ("00", "01", "007", "1000001", "9999999", "10000000", "00000000", "1" * 4000):
            self.faulty(MALFORMED, "table p { a: number from ^%s to 5; }" % number)
            self.faulty(MALFORMED, "table p { a: number from -5 to -^%s; }" % number)

    def test_wrong_words_and_numbers_where_none_could_stand(self):
        self.faulty(MALFORMED, "^01")
        self.faulty(MALFORMED, "table ^01 { }")
        self.faulty(MALFORMED, "table p ^abcdefghijklm")
        self.faulty(MALFORMED, FOUR_TABLES + "^abcdefghijklm")

    def test_what_stands_ahead_counts_first(self):
        self.faulty(MISPLACED, "table ^; A")
        self.faulty(MISPLACED, "table p { } ^} abcdefghijklm")
        self.faulty(UNKNOWN, "table ^! ;")


class GrammarFaults(LoadCase):
    def test_misplaced_tokens(self):
        for marked in (
            "^p", "^{", "^}", "^7", "^-", "^number", "table ^table", "table ^7", "table ^{", "table p ^p",
            "table p ^}", "table p { ^; }", "table p { ^: }", "table p { ^5: number; }", "table p { ^{ }",
            "table p { a ^number; }", "table p { a ^; }", "table p { a: ^; }", "table p { a: ^p; }",
            "table p { a: ^unique; }", "table p { a: ^none; }", "table p { a: number ^to 5; }",
            "table p { a: number ^5; }", "table p { a: number from ^to 5; }",
            "table p { a: number from - ^- 5 to 5; }", "table p { a: number from 1 ^2; }",
            "table p { a: number from 1 ^-2; }", "table p { a: number ^from1; }",
            "table p { a: number from 1 to ^; }", "table p { a: number from 1 to -^x; }",
            "table p { a: number from 1 to 2 ^3; }", "table p { a: number ^none; }",
            "table p { a: number ^cascade; }", "table p { a: number ^clear; }",
            "table p { a: number unique ^unique; }", "table p { a: number unique ^from 1 to 2; }",
            "table p { a: ref ^; }", "table p { a: ref ^none; }", "table p { a: ref ^5; }",
            "table p { a: ref p ^p; }", "table p { a: ref p none ^none; }",
            "table p { a: ref p cascade ^none; }", "table p { a: ref p cascade ^clear; }",
            "table p { a: ref p none cascade ^clear; }", "table p { a: ref p none clear ^cascade; }",
            "table p { a: ref p none clear ^clear; }", "table p { a: ref p unique ^none; }",
            "table p { a: ref p unique ^clear; }", "table p { a: ref p ^from 1 to 2; }",
            "table p { a: number ^}", "table p { a: number; ^; }", "table p { } ^}", "table p { } ^;",
        ):
            self.faulty(MISPLACED, marked)

    def test_the_nine_words_are_no_names(self):
        for word in ("table", "number", "from", "to", "ref", "none", "cascade", "clear", "unique"):
            self.faulty(MISPLACED, "table ^%s { }" % word)
            self.faulty(MISPLACED, "table p { ^%s: number; }" % word)
            self.faulty(MISPLACED, "table p { a: ref ^%s; }" % word)

    def test_a_text_that_ends_too_soon(self):
        whole = "table p { a : number from - 1 to - 1 unique ; b : ref p none clear unique ; }"
        parts = whole.split(" ")
        for count in range(1, len(parts)):
            self.faulty(ENDED, " ".join(parts[:count]) + "^")
            self.faulty(ENDED, " ".join(parts[:count]) + " \n# a remark ^")
        self.faulty(ENDED, "table p { } table^")

    def test_a_fifth_table(self):
        self.faulty(TOO_MANY, FOUR_TABLES + "^table e { }")
        self.faulty(TOO_MANY, FOUR_TABLES + "^table a")
        self.faulty(TOO_MANY, FOUR_TABLES + "^table")
        self.faulty(MISPLACED, FOUR_TABLES + "^e")
        self.faulty(UNKNOWN, FOUR_TABLES + "^E")

    def test_a_fifth_column(self):
        for behind in (
            "e: number; }", "a: number; }", "table", ";", "{", ":", "-", "5", "007", "12345678",
            "abcdefghijklm", "A", "_", "\xff", "", "   ",
        ):
            marked = "^" + behind if behind.strip() else behind + "^"
            self.faulty(TOO_MANY, FOUR_COLUMNS + marked)
        self.faulty(TOO_MANY, FOUR_COLUMNS + "# a remark\n ^e")
        self.faulty(TOO_MANY, FOUR_COLUMNS + "# a remark^")

    def test_the_fourth_column_is_read_as_any(self):
        self.faulty(MISPLACED, FOUR_COLUMNS.replace(" d", " ^5"))
        self.faulty(ENDED, FOUR_COLUMNS.rstrip("; ") + "^")


class MeaningFaults(LoadCase):
    def test_names_twice(self):
        self.faulty(TWICE, "table p { } table ^p { }")
        self.faulty(TWICE, "table p { } table q { } table ^p !")
        self.faulty(TWICE, "table p { a: number; ^a: number; }")
        self.faulty(TWICE, "table p { a: number; b: number; c: number; ^b")
        self.faulty(TWICE, "table q { } table p { a: ref q; b: number; ^a: ref x; }")

    def test_ranges_that_go_down(self):
        self.faulty(CONTRARY, "table p { a: number from 5 to ^4; }")
        self.faulty(CONTRARY, "table p { a: number from 0 to ^-1; }")
        self.faulty(CONTRARY, "table p { a: number from -5 to ^-6; }")
        self.faulty(CONTRARY, "table p { a: number from -5 to ^- # far\n 6 !")
        self.faulty(CONTRARY, "table p { a: number from 1000000 to ^-1000000")

    def test_the_second_number_of_a_range_is_read_whole(self):
        self.faulty(MISPLACED, "table p { a: number from 5 to -^; }")
        self.faulty(ENDED, "table p { a: number from 5 to -^")
        self.faulty(MALFORMED, "table p { a: number from 5 to -^1000001; }")
        self.faulty(MALFORMED, "table p { a: number from 5 to ^01; }")

    def test_clear_without_none(self):
        self.faulty(CONTRARY, "table p { a: ref p ^clear; }")
        self.faulty(CONTRARY, "table p { a: ref p ^clear unique; }")
        self.faulty(CONTRARY, "table p { a: ref nowhere ^clear !")

    def test_no_such_table(self):
        self.faulty(NO_TABLE, "table p { a: ref ^q; }")
        self.faulty(NO_TABLE, "table p { a: ref p; b: ref ^x; c: ref y; } table q { d: ref z; }")
        self.faulty(NO_TABLE, "table p { a: ref q; } table q { a: ref ^a; }")

    def test_no_such_table_only_if_there_is_no_other_fault(self):
        self.faulty(TWICE, "table p { a: ref q; ^a: number; }")
        self.faulty(ENDED, "table p { a: ref q; }  table^")
        self.faulty(UNKNOWN, "table p { a: ref q; } ^!")
        self.faulty(TOO_MANY, FOUR_TABLES.replace("{ }", "{ a: ref x; }") + "^table z")

    def test_the_leftmost_fault_is_the_first(self):
        self.faulty(CONTRARY, "table p { a: number from 2 to ^1; a: number; } table p !")
        self.faulty(TWICE, "table p { a: number; ^a: number from 2 to 1; }")
        self.faulty(CONTRARY, FOUR_COLUMNS.replace("d: number;", "d: ref q ^clear;") + "e: number; }")


class Refusals(unittest.TestCase):
    def test_numbers_that_are_no_bytes(self):
        for number in (-1, 256, 10 ** 18, -10 ** 18):
            self.assertEqual(last(load([number])), [-1])
            self.assertEqual(last(load([35, number, 35])), [-1])
        self.assertEqual(last(load([35, 0, 255])), [0, 0, 0])

    def test_too_many_numbers(self):
        self.assertEqual(last(load([32] * 4096)), [0, 0, 0])
        self.assertEqual(last(load([32] * 4097)), [-2])
        self.assertEqual(last(load([65] * 5000)), [-2])

    def test_the_refusal_told_first_is_answered(self):
        self.assertEqual(last(load([32] * 4999 + [256])), [-1])
        self.assertEqual(last(load([65] * 4096 + [-1])), [-1])

    def test_a_fault_at_the_longest_texts_end(self):
        self.assertEqual(last(load("table".ljust(4096))), [1, ENDED, 4096])
        self.assertEqual(last(load(" " * 4095 + "!")), [1, UNKNOWN, 4095])


class WhatIsHeld(unittest.TestCase):
    def test_faults_and_refusals_leave_it_as_it_was(self):
        ahead = (load(EXAMPLE), fill(*EXAMPLE_ROWS), wish(*EXAMPLE_WISH))
        before = ask(*ahead, WRITTEN, TABLES)[-2:]
        for bad in ([256], [32] * 4097, "table z { } table", "table z { a: ref y; }", "!"):
            with self.subTest(text=bad):
                self.assertEqual(ask(*ahead, load(bad), WRITTEN, TABLES)[-2:], before)

    def test_a_load_empties_rows_and_wishes(self):
        told = ask(load(EXAMPLE), fill(*EXAMPLE_ROWS), wish(*EXAMPLE_WISH), load(EXAMPLE), TABLES)
        self.assertEqual(told[-2:], [[0, 2, 3], [0, 0, 0, 0, 0]])

    def test_a_load_takes_the_old_schemas_place(self):
        told = ask(load(EXAMPLE), fill(*EXAMPLE_ROWS), load(""), WRITTEN, TABLES)
        self.assertEqual(told[-3:], [[0, 0, 0], [0], [0]])


if __name__ == "__main__":
    unittest.main()
