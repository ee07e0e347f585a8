"""Promise 1: the one form of a schema's text."""

import unittest

from asking import EXAMPLE, WRITTEN, ask, last, load


def written(text):
    """What is written of this text, as a text."""
    told = last(load(text), WRITTEN)
    if told[0] != 0:
        raise AssertionError("written answered %r" % told)
    return "".join([chr(number) for number in told[1:]])


class OneForm(unittest.TestCase):
    def test_ahead_of_any_load(self):
        self.assertEqual(ask(WRITTEN), [[0]])

    def test_no_tables(self):
        self.assertEqual(written(""), "")
        self.assertEqual(written(" # nothing"), "")

    def test_example(self):
        self.assertEqual(
            written(EXAMPLE),
            "table p {\n  age: number from 0 to 9 unique;\n  boss: ref p none;\n}\n"
            "table q {\n  of: ref p;\n}\n",
        )

    def test_tables_without_columns(self):
        self.assertEqual(written("table b{}table a{}"), "table b {\n}\ntable a {\n}\n")

    def test_each_kind(self):
        for kind, form in (
            ("number", "number"),
            ("number from -1000000 to 1000000", "number"),
            ("number from -1000000 to 999999", "number from -1000000 to 999999"),
            ("number from -999999 to 1000000", "number from -999999 to 1000000"),
            ("number from - 5 to -0", "number from -5 to 0"),
            ("number from 7 to 7", "number from 7 to 7"),
            ("ref q", "ref q"),
            ("ref q none", "ref q none"),
            ("ref q cascade", "ref q cascade"),
            ("ref q none cascade", "ref q none cascade"),
            ("ref q none clear", "ref q none clear"),
        ):
            for unique in ("", " unique"):
                with self.subTest(kind=kind, unique=unique):
                    self.assertEqual(
                        written("table p{a:%s%s;} table q { }" % (kind, unique)),
                        "table p {\n  a: %s%s;\n}\ntable q {\n}\n" % (form, unique),
                    )

    def test_references_are_written_by_their_tables_names(self):
        text = "table one { a: ref three; b: ref two; } table two { a: ref one; } table three { a: ref three; }"
        self.assertEqual(
            written(text),
            "table one {\n  a: ref three;\n  b: ref two;\n}\n"
            "table two {\n  a: ref one;\n}\ntable three {\n  a: ref three;\n}\n",
        )

    def test_what_is_written_is_written_the_same_again(self):
        for text in (
            "", EXAMPLE, "table p{}", "table a_1{x9:number from -3 to - 2 unique;y:ref z none clear unique;}"
            "table z{q:ref a_1 cascade;r:ref z none cascade unique;s:number from 0 to 1000000;t:number;}",
        ):
            with self.subTest(text=text):
                self.assertEqual(written(written(text)), written(text))


if __name__ == "__main__":
    unittest.main()
