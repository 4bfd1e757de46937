"""Point 7, and what the words say of the order of literals, items and conditions."""

import unittest

from tests.helper import EXAMPLE_ROW, EXAMPLE_SCHEMA, ask, begin, drop, put, replace, rows_holding, run, schema

NUMBERS = ["{a:-5}", "{a:0}", "{a:5}", "{a:10}", "{}"]
TEXTS = ['{a:""}', '{a:"a"}', '{a:"ab"}', '{a:"b"}', '{a:"\\ff"}', "{}", '{a:"\\22"}']


def condition_of_length(length):
    """A condition of so many bytes."""
    if length % 2 == 0:
        return "|[" + ",".join("T" * ((length - 2) // 2)) + "]"
    return "|[!T," + ",".join("T" * ((length - 5) // 2)) + "]"


class Holding(unittest.TestCase):
    def held(self, schema_text, rows, condition, expected):
        with self.subTest(condition=condition):
            self.assertEqual(rows_holding(schema_text, rows, condition), expected)

    def refused(self, schema_text, *conditions):
        for condition in conditions:
            with self.subTest(refused=condition):
                self.assertIsNone(rows_holding(schema_text, [], condition))

    def taken(self, schema_text, *conditions):
        for condition in conditions:
            with self.subTest(taken=condition):
                self.assertEqual(rows_holding(schema_text, [], condition), [])


class Joined(Holding):
    def test_all_and_none(self):
        self.held("{1a?i8}", NUMBERS, "T", [0, 1, 2, 3, 4])
        self.held("{1a?i8}", NUMBERS, "F", [])

    def test_not(self):
        self.held("{1a?i8}", NUMBERS, "!T", [])
        self.held("{1a?i8}", NUMBERS, "!F", [0, 1, 2, 3, 4])
        self.held("{1a?i8}", NUMBERS, "!!T", [0, 1, 2, 3, 4])
        self.held("{1a?i8}", NUMBERS, "!(a<5)", [2, 3, 4])

    def test_all_of(self):
        self.held("{1a?i8}", NUMBERS, "&[(a>-5),(a<10)]", [1, 2])
        self.held("{1a?i8}", NUMBERS, "&[(a>-5)]", [1, 2, 3])
        self.held("{1a?i8}", NUMBERS, "&[T,F]", [])
        self.held("{1a?i8}", NUMBERS, "&[T,T,(a?)]", [0, 1, 2, 3])

    def test_at_least_one_of(self):
        self.held("{1a?i8}", NUMBERS, "|[(a<0),(a>5)]", [0, 3])
        self.held("{1a?i8}", NUMBERS, "|[(a<0)]", [0])
        self.held("{1a?i8}", NUMBERS, "|[F,T]", [0, 1, 2, 3, 4])
        self.held("{1a?i8}", NUMBERS, "|[F,F]", [])

    def test_within_one_another(self):
        self.held("{1a?i8}", NUMBERS, "|[&[(a>0),!(a=5)],!&[(a?),T]]", [3, 4])

    def test_form(self):
        self.refused(
            "{1a?i8}", "", "TT", "T ", " T", "t", "f", "!", "!!", "T!", "()", "(", "[T]", "&", "|", "&[", "&[]", "|[]", "&[T",
            "&T", "&[T,]", "&[,T]", "&[T,,T]", "&[T;T]", "&[T}", "&(T)", "&[T]]", "|[T,T],T", "T,T", "!&", "(T)", "&[T F]",
            "^[T]", "{T}", "T\0", "\xff", "T\n",
        )

    def test_bytes(self):
        self.assertEqual(len(condition_of_length(500)), 500)
        self.assertEqual(len(condition_of_length(501)), 501)
        self.taken("{1a?i8}", condition_of_length(499), condition_of_length(500))
        self.refused("{1a?i8}", condition_of_length(501), condition_of_length(502), condition_of_length(1000))
        self.refused("{1a?i8}", "T" * 1000, "!" * 999 + "T", "&[" * 500)

    def test_how_many_it_may_stand_in(self):
        self.held("{1a?i8}", ["{}"], "!" * 20 + "T", [0])
        self.held("{1a?i8}", ["{}"], "!" * 19 + "T", [])
        self.refused("{1a?i8}", "!" * 21 + "T", "!" * 22 + "T", "!" * 400 + "T")
        for sign in "&|":
            self.taken("{1a?i8}", (sign + "[") * 20 + "T" + "]" * 20, (sign + "[") * 20 + "(a?)" + "]" * 20)
            self.refused("{1a?i8}", (sign + "[") * 21 + "T" + "]" * 21, (sign + "[") * 21 + "(a?)" + "]" * 21)
        self.taken("{1a?i8}", "&[T," + "!" * 19 + "T,T]", "|[" + "!" * 19 + "F," + "!" * 19 + "F]")
        self.refused("{1a?i8}", "&[T," + "!" * 20 + "T,T]", "&[T,T," + "!" * 20 + "(a?)]")


class Tests(Holding):
    def test_of_numbers(self):
        self.held("{1a?i8}", NUMBERS, "(a?)", [0, 1, 2, 3])
        self.held("{1a?i8}", NUMBERS, "(a<5)", [0, 1])
        self.held("{1a?i8}", NUMBERS, "(a>5)", [3])
        self.held("{1a?i8}", NUMBERS, "(a=5)", [2])
        self.held("{1a?i8}", NUMBERS, "(a>-6)", [0, 1, 2, 3])
        self.held("{1a?i8}", NUMBERS, "(a<-5)", [])
        self.held("{1a?i8}", NUMBERS, "(a<9)", [0, 1, 2])

    def test_of_bits(self):
        rows = ["{a:0}", "{a:1}"]
        self.held("{1a!b}", rows, "(a?)", [0, 1])
        self.held("{1a!b}", rows, "(a<1)", [0])
        self.held("{1a!b}", rows, "(a>0)", [1])
        self.held("{1a!b}", rows, "(a=1)", [1])
        self.held("{1a!b}", rows, "(a>1)", [])

    def test_of_texts(self):
        self.held("{1a?t4}", TEXTS, "(a?)", [0, 1, 2, 3, 4, 6])
        self.held("{1a?t4}", TEXTS, '(a<"a")', [0, 6])
        self.held("{1a?t4}", TEXTS, '(a>"a")', [2, 3, 4])
        self.held("{1a?t4}", TEXTS, '(a="a")', [1])
        self.held("{1a?t4}", TEXTS, '(a="\\22")', [6])
        self.held("{1a?t4}", TEXTS, '(a<"")', [])
        self.held("{1a?t4}", TEXTS, '(a>"")', [1, 2, 3, 4, 6])
        self.held("{1a?t4}", TEXTS, '(a<"b")', [0, 1, 2, 6])
        self.held("{1a?t4}", TEXTS, '(a>"~")', [4])

    def test_beginning(self):
        self.held("{1a?t4}", TEXTS, '(a^"a")', [1, 2])
        self.held("{1a?t4}", TEXTS, '(a^"ab")', [2])
        self.held("{1a?t4}", TEXTS, '(a^"abc")', [])
        self.held("{1a?t4}", TEXTS, '(a^"")', [0, 1, 2, 3, 4, 6])
        self.held("{1a?t4}", TEXTS, '(a^"\\ff")', [4])

    def test_ends_of_the_ranges(self):
        rows = ["{a:-9223372036854775808}", "{a:9223372036854775807}"]
        self.held("{1a!i64}", rows, "(a=-9223372036854775808)", [0])
        self.held("{1a!i64}", rows, "(a<9223372036854775807)", [0])
        self.held("{1a!i64}", rows, "(a>9223372036854775806)", [1])
        self.refused("{1a!i64}", "(a<9223372036854775808)", "(a>-9223372036854775809)")
        self.taken("{1a!i2}", "(a<1)", "(a<-2)")
        self.refused("{1a!i2}", "(a<2)", "(a>-3)")
        self.taken("{1a!t3}", '(a="abc")', '(a^"\\00\\00\\00")')
        self.refused("{1a!t3}", '(a="abcd")', '(a^"abcd")', '(a<"\\00\\00\\00\\00")')

    def test_beginning_only_of_texts(self):
        self.refused("{1a?i8;2b?b}", "(a^5)", '(a^"5")', "(b^1)", "(a^)")

    def test_literals_of_the_leafs_kind(self):
        self.refused("{1a?i8}", '(a="5")', "(a=05)", "(a=-0)", "(a=+5)", "(a=)", "(a=x)", "(a=128)", "(a<)", "(a>)", "(a=5,6)")
        self.refused("{1a?b}", "(a=2)", "(a=-1)", "(a=01)", '(a="1")')
        self.refused("{1a?t4}", "(a=5)", "(a=x)", '(a="x)', '(a="\\41")', '(a="\\FF")', '(a="\xff")', '(a="\n")')

    def test_form_of_atoms(self):
        self.taken("{1a?i8}", "(a?)", "(a<1)")
        self.refused(
            "{1a?i8}", "(a)", "(a", "(a?", "a?", "a?)", "(a??)", "(a?1)", "(?)", "(<5)", "(a!5)", "(a:5)", "(a==5)", "(a<=5)",
            "(a<5", "(a<5))", "(a<5]", "((a<5))", "( a<5)", "(a <5)", "(a< 5)", "(a<5 )", "(A?)", "(a<5)(a<5)", "(a<5>3)",
        )

    def test_literals_may_hold_any_sign(self):
        self.held("{1a!t9}", ['{a:"),(]"}', '{a:"x"}'], '|[(a="),(]")]', [0])


class Names(Holding):
    def test_dotted_names(self):
        schema_text = "{1a!{1b!{1c!i8};2d!<1e!b;2f!{1g?t4}>}}"
        rows = ["{a:{b:{c:1};d:<e:1>}}", '{a:{b:{c:2};d:<f:{g:"x"}>}}', "{a:{b:{c:3};d:<f:{}>}}"]
        self.held(schema_text, rows, "(a.b.c>1)", [1, 2])
        self.held(schema_text, rows, "(a.d.e?)", [0])
        self.held(schema_text, rows, "(a.d.f.g?)", [1])
        self.held(schema_text, rows, '(a.d.f.g^"x")', [1])
        self.refused(
            schema_text, "(a?)", "(a.b?)", "(a.d?)", "(a.d.f?)", "(c?)", "(b.c?)", "(a.c?)", "(a.b.c.d?)", "(a.b.c.?)", "(.a.b.c?)",
            "(a..b.c?)", "(abc?)", "(a.b.c.?)", "(a.d.g?)", "(a.b.x?)", "(a.b.C?)", "(a,b,c?)", "(1.1.1?)",
        )

    def test_unknown_names(self):
        self.refused("{1a?i8;2ab?i8}", "(b?)", "(abc?)", "(aa?)", "(a_?)", "(x=1)", "&[T,(b?)]", "|[T,(b?)]", "!(b?)", "(a1?)")
        self.refused("{1a?i8}", "(" + "a" * 400 + "?)", "(" + "a." * 200 + "a?)")

    def test_longest_names(self):
        name = "abcdefghijkl"
        schema_text = "{1NAME!{1NAME!{1NAME!{1NAME!{1NAME!{1NAME!i8}}}}}}".replace("NAME", name)
        row = "{NAME:{NAME:{NAME:{NAME:{NAME:{NAME:7}}}}}}".replace("NAME", name)
        self.held(schema_text, [row], "(" + ".".join([name] * 6) + "=7)", [0])
        self.refused(schema_text, "(" + ".".join([name] * 5) + "=7)", "(" + ".".join([name] * 7) + "=7)")

    def test_like_names_in_unlike_groups(self):
        schema_text = "{1a!{1x!i8};2b!{1x!i8};3x!i8}"
        rows = ["{a:{x:1};b:{x:2};x:3}"]
        for condition, expected in [("(a.x=1)", [0]), ("(b.x=2)", [0]), ("(x=3)", [0]), ("(a.x=2)", []), ("(x=1)", [])]:
            self.held(schema_text, rows, condition, expected)


class Items(Holding):
    def test_one_value_is_enough(self):
        rows = ["{a:1,9}", "{a:1,2}", "{a:9}", "{}"]
        self.held("{1a*i8}", rows, "(a>5)", [0, 2])
        self.held("{1a*i8}", rows, "(a<5)", [0, 1])
        self.held("{1a*i8}", rows, "&[(a<5),(a>5)]", [0])
        self.held("{1a*i8}", rows, "!(a<5)", [2, 3])
        self.held("{1a*i8}", rows, "(a=2)", [1])
        self.held("{1a*i8}", rows, "(a?)", [0, 1, 2])

    def test_gaps_hold_nothing(self):
        rows = ["{a:{},{b:1,2}}", "{a:{},{}}", "{}", "{a:{b:0},{}}"]
        self.held("{1a*{1b*i8}}", rows, "(a.b?)", [0, 3])
        self.held("{1a*{1b*i8}}", rows, "!(a.b?)", [1, 2])
        self.held("{1a*{1b*i8}}", rows, "(a.b=2)", [0])
        self.held("{1a*{1b*i8}}", rows, "(a.b<1)", [3])

    def test_fields_not_taken_are_gaps(self):
        rows = ["{a:<b:1>,<c:2>}", "{a:<c:1>}", "{}"]
        self.held("{1a*<1b!i8;2c!i8>}", rows, "(a.b=1)", [0])
        self.held("{1a*<1b!i8;2c!i8>}", rows, "(a.c=1)", [1])
        self.held("{1a*<1b!i8;2c!i8>}", rows, "!(a.b?)", [1, 2])

    def test_keyed_records(self):
        rows = ['{a:{k:1;v:"x"},{k:2}}', '{a:{k:2;v:"y"}}', "{}"]
        self.held("{1a%{1k!i8;2v?t4}}", rows, "(a.k=2)", [0, 1])
        self.held("{1a%{1k!i8;2v?t4}}", rows, '(a.v="y")', [1])
        self.held("{1a%{1k!i8;2v?t4}}", rows, '&[(a.k=2),(a.v="x")]', [0])

    def test_document_example(self):
        for condition, expected in [
            ("(id=5)", [0]), ("(name?)", []), ('(tags="b\\22")', [0]), ('(tags^"b")', [0]), ("(pos.x<0)", [0]),
            ("(pos.y<0)", []), ("(shape.dot?)", []), ("(shape.line.len=7)", [0]), ('(attr.key="b")', [0]), ("(attr.val>2)", [0]),
            ("(attr.val<3)", []),
        ]:
            self.held(EXAMPLE_SCHEMA, [EXAMPLE_ROW], condition, expected)


class TheCall(unittest.TestCase):
    def test_no_rows(self):
        self.assertEqual(run(schema("{1a!b}"), begin(), ask(0, "T"))[2], [0])

    def test_numbers_rise_and_are_the_views(self):
        found = run(
            schema("{1a!i8}"), begin(), begin(), put(0, "{a:3}"), put(1, "{a:3}"), put(0, "{a:4}"), put(0, "{a:5}"),
            put(1, "{a:9}"), ask(0, "T"), ask(1, "T"), replace(0, 0, "{a:6}"), ask(0, "(a>3)"), drop(0, 2), ask(0, "(a>3)"),
            ask(1, "(a>3)"), ask(0, "(a=3)"),
        )
        self.assertEqual(
            found[8:], [[3, 0, 2, 3], [2, 1, 4], [1], [3, 0, 2, 3], [1], [2, 0, 3], [1, 4], [0]]
        )

    def test_refused_ones_leave_all_as_it_was(self):
        found = run(schema("{1a!i8}"), begin(), put(0, "{a:3}"), ask(0, "(b?)"), ask(0, "T"), ask(0, ""), ask(0, "(a=3)"))
        self.assertEqual(found[2:], [[0], [-1], [1, 0], [-1], [1, 0]])


if __name__ == "__main__":
    unittest.main()
