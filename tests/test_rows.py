"""Point 5, and what the words say of literals, of records as values and as texts."""

import unittest

from tests.helper import EXAMPLE_ROW, EXAMPLE_SCHEMA, begin, look, put, row_taken, run, schema, seen, undo


def row_of_length(length):
    """A row of `{1a*t999}` with so many bytes, from 3100 on."""
    first = "{a:" + ('"' + "x" * 999 + '",') * 3 + '"'
    return first + "y" * (length - len(first) - 2) + '"}'


class TakenOrNot(unittest.TestCase):
    def taken(self, schema_text, *texts):
        for text in texts:
            with self.subTest(schema=schema_text, taken=text):
                self.assertTrue(row_taken(schema_text, text))

    def refused(self, schema_text, *texts):
        for text in texts:
            with self.subTest(schema=schema_text, refused=text):
                self.assertFalse(row_taken(schema_text, text))


class Form(TakenOrNot):
    def test_document_example(self):
        self.taken(EXAMPLE_SCHEMA, EXAMPLE_ROW)

    def test_cut_anywhere_is_none(self):
        for place in range(len(EXAMPLE_ROW)):
            self.refused(EXAMPLE_SCHEMA, EXAMPLE_ROW[:place])

    def test_one_sign_left_over_is_none(self):
        self.refused(EXAMPLE_SCHEMA, *[EXAMPLE_ROW + sign for sign in "}{;, \0\xff"])

    def test_no_blanks(self):
        text = "{a:1;b:2,3}"
        self.taken("{1a!i8;2b*i8}", text)
        for place in range(len(text) + 1):
            self.refused("{1a!i8;2b*i8}", text[:place] + " " + text[place:])

    def test_nothing_but_a_record(self):
        self.refused(
            "{1a!b}", "", "{", "}", "{}", "a:1", "{a:1", "a:1}", "<a:1>", "{a:1>", "1", "{a}", "{a:}", "{:1}", "{1}",
            "{a=1}", "{a:1;}", "{;a:1}", "{a:1,}", "{a:,1}", "{a:1}{a:1}", "{1a:1}", "{1:1}", "{A:1}", "{a!1}",
        )
        self.taken("{1a!b}", "{a:1}", "{a:0}")

    def test_between_fields_and_occurrences(self):
        self.taken("{1a!b;2b!b}", "{a:1;b:0}")
        self.refused("{1a!b;2b!b}", "{a:1,b:0}", "{a:1b:0}", "{a:1;;b:0}", "{a:1;b:0;}", "{a:1:b:0}")
        self.taken("{1a*b}", "{a:1,0}")
        self.refused("{1a*b}", "{a:1;0}", "{a:10}", "{a:1,,0}", "{a:1,0,}", "{a:1;a:0}")

    def test_fields_in_the_schemas_order(self):
        three = "{1c?b;2a?b;3b?b}"
        self.taken(three, "{c:1;a:1;b:1}", "{c:1;b:1}", "{a:1;b:1}", "{c:1;a:1}", "{c:1}", "{a:1}", "{b:1}", "{}")
        self.refused(three, "{a:1;c:1}", "{b:1;a:1}", "{b:1;c:1}", "{a:1;b:1;c:1}", "{c:1;c:1}", "{a:1;b:1;a:1}")

    def test_unknown_names(self):
        self.refused("{1a!b;2b?b}", "{a:1;c:1}", "{c:1}", "{a:1;b:1;c:1}", "{c:1;a:1}", "{a:1;a:1}", "{a:1;bb:1}", "{aa:1}")
        self.refused("{1a?b}", "{c}", "{a:1;c}", "{c:}", "{a:1;c:}", "{a}", "{a:1;a}")

    def test_bytes(self):
        self.assertEqual(len(row_of_length(4000)), 4000)
        self.taken("{1a*t999}", row_of_length(3999), row_of_length(4000))
        self.refused("{1a*t999}", row_of_length(4001), row_of_length(4002))
        self.refused("{1a*t999}", "{a:" + '"",' * 1600 + '""}', "x" * 5000, "{" * 5000, "{a:" + "1" * 4900 + "}")


class Occurrences(TakenOrNot):
    def test_just_one(self):
        self.taken("{1a!i8}", "{a:1}")
        self.refused("{1a!i8}", "{}", "{a:1,2}", "{a:1,1}")
        self.refused("{1a!i8;2b!i8}", "{a:1}", "{b:1}", "{}")
        self.refused("{1a?i8;2b!i8}", "{a:1}")
        self.taken("{1a?i8;2b!i8}", "{b:1}", "{a:1;b:1}")

    def test_a_default_fills_no_gap(self):
        self.refused("{1a!i8=5}", "{}")
        self.refused("{1a?{1x!i16=0;2y!i16}}", "{a:{y:1}}")
        self.taken("{1a!i8=5}", "{a:5}", "{a:6}")

    def test_none_or_one(self):
        self.taken("{1a?i8}", "{}", "{a:1}")
        self.refused("{1a?i8}", "{a:1,2}", "{a:}")

    def test_any_number(self):
        self.taken("{1a*i8}", "{}", "{a:1}", "{a:3,1,2,2,1}", "{a:" + ",".join("7" * 1900) + "}")
        self.refused("{1a*i8}", "{a:}")

    def test_groups_as_kinds(self):
        self.taken("{1a!{1b?b}}", "{a:{}}", "{a:{b:1}}")
        self.refused("{1a!{1b?b}}", "{}", "{a:}", "{a:{b:1},{b:1}}", "{a:1}", "{a:<b:1>}")
        self.taken("{1a*{1b?b}}", "{}", "{a:{}}", "{a:{},{b:1},{},{b:1}}")
        self.taken("{1a?{1b?b}}", "{}", "{a:{}}")
        self.refused("{1a?{1b?b}}", "{a:{},{}}")
        self.refused("{1a!{1b!b}}", "{a:{}}")

    def test_six_deep(self):
        self.taken("{1a!{1a!{1a!{1a!{1a!{1a!i8}}}}}}", "{a:{a:{a:{a:{a:{a:-5}}}}}}")
        self.refused("{1a!{1a!{1a!{1a!{1a!{1a!i8}}}}}}", "{a:{a:{a:{a:{a:-5}}}}}", "{a:{a:{a:{a:{a:{a:{a:-5}}}}}}}", "{a:" * 1300)


class Choices(TakenOrNot):
    CHOICE = "{1a!<1b!b;2c!i8;3d!{1e?b}>}"

    def test_just_one_field(self):
        self.taken(self.CHOICE, "{a:<b:1>}", "{a:<c:-7>}", "{a:<d:{}>}", "{a:<d:{e:0}>}")
        self.refused(
            self.CHOICE, "{a:<>}", "{a:<b:1;c:1>}", "{a:<b:1,0>}", "{a:<b:2>}", "{a:<c:1;b:1>}", "{a:<e:1>}", "{a:<b>}",
            "{a:<b:>}", "{a:<:1>}", "{a:{b:1}}", "{a:<b:1}}", "{a:<b:1;>}", "{a:1}", "{a:}", "{}", "{a:<d:<e:0>>}",
            "{a:<c:1>,<c:1>}", "{a:<b:1>", "{a:<b1>}",
            "{a:<x:>}", "{a:<x>}", "{a:<x:1>}", "{a:<bb:1>}",
        )

    def test_modes(self):
        self.taken("{1a*<1b!b;2c!i8>}", "{}", "{a:<b:1>}", "{a:<c:5>,<b:1>,<c:5>}")
        self.taken("{1a?<1b!b;2c!i8>}", "{}", "{a:<c:1>}")
        self.refused("{1a?<1b!b;2c!i8>}", "{a:<b:1>,<c:1>}")

    def test_within_one_another(self):
        self.taken("{1a!<1b!<1c!b;2d!t3>;2e!b>}", "{a:<b:<c:1>>}", '{a:<b:<d:"x">>}', "{a:<e:0>}")
        self.refused("{1a!<1b!<1c!b;2d!t3>;2e!b>}", "{a:<c:1>}", "{a:<b:<e:0>>}")


class Keys(TakenOrNot):
    def test_whole_numbers_rise(self):
        keyed = "{1a%{1k!i8;2v?b}}"
        self.taken(keyed, "{}", "{a:{k:5}}", "{a:{k:-10},{k:-9},{k:0},{k:9;v:1},{k:10}}")
        self.refused(keyed, "{a:{k:5},{k:5}}", "{a:{k:5;v:1},{k:5;v:0}}", "{a:{k:6},{k:5}}", "{a:{k:-9},{k:-10}}")
        self.refused(keyed, "{a:{k:9},{k:10},{k:9}}", "{a:{k:1},{k:3},{k:2}}", "{a:{v:1}}", "{a:{}}", "{a:}")

    def test_bits_rise(self):
        self.taken("{1a%{1k!b}}", "{a:{k:0},{k:1}}", "{a:{k:1}}")
        self.refused("{1a%{1k!b}}", "{a:{k:1},{k:0}}", "{a:{k:0},{k:0}}", "{a:{k:0},{k:1},{k:1}}")

    def test_texts_rise(self):
        keyed = "{1a%{1k!t4}}"
        self.taken(
            keyed, '{a:{k:""},{k:"a"},{k:"aa"},{k:"ab"},{k:"b"}}', '{a:{k:"\\00"},{k:"\\01"},{k:" "},{k:"\\22"},{k:"~"},{k:"\\7f"}}',
            '{a:{k:"z"},{k:"\\ff"}}', '{a:{k:"["},{k:"\\5c"},{k:"]"}}', '{a:{k:"a"},{k:"a\\00"}}',
        )
        self.refused(
            keyed, '{a:{k:"a"},{k:""}}', '{a:{k:"aa"},{k:"a"}}', '{a:{k:"b"},{k:"aa"}}', '{a:{k:"\\ff"},{k:"z"}}',
            '{a:{k:"a"},{k:"a"}}', '{a:{k:"]"},{k:"\\5c"}}', '{a:{k:""},{k:""}}', '{a:{k:"\\22"},{k:"!"}}',
        )

    def test_each_list_of_occurrences_for_itself(self):
        nested = "{1a*{1b%{1k!i8}}}"
        self.taken(nested, "{a:{b:{k:5},{k:6}},{b:{k:1}},{},{b:{k:1}}}")
        self.refused(nested, "{a:{b:{k:5},{k:6}},{b:{k:2},{k:1}}}")

    def test_a_key_within_a_keyed_record(self):
        self.taken("{1a%{1k!i8;2b%{1k!i8}}}", "{a:{k:1;b:{k:9}},{k:2;b:{k:1},{k:3}}}")
        self.refused("{1a%{1k!i8;2b%{1k!i8}}}", "{a:{k:1;b:{k:9}},{k:1;b:{k:10}}}", "{a:{k:1;b:{k:3},{k:3}}}")

    def test_other_modes_need_no_order(self):
        self.taken("{1a*{1k!i8}}", "{a:{k:5},{k:5},{k:1}}")


class Literals(TakenOrNot):
    def test_bits(self):
        self.taken("{1a!b}", "{a:0}", "{a:1}")
        self.refused("{1a!b}", "{a:2}", "{a:-1}", "{a:-0}", "{a:00}", "{a:01}", "{a:11}", '{a:"1"}', "{a:T}", "{a:b}", "{a:}")

    def test_ranges_of_all_sizes(self):
        for size in range(2, 65):
            kind = "{1a!i" + str(size) + "}"
            half = 2 ** (size - 1)
            self.taken(kind, "{a:" + str(-half) + "}", "{a:" + str(half - 1) + "}", "{a:0}")
            self.refused(kind, "{a:" + str(-half - 1) + "}", "{a:" + str(half) + "}")

    def test_digits(self):
        self.taken("{1a!i64}", "{a:10}", "{a:-10}", "{a:1000000000000000000}")
        self.refused(
            "{1a!i64}", "{a:-0}", "{a:00}", "{a:01}", "{a:-01}", "{a:+1}", "{a:--1}", "{a:-}", "{a:1-}", "{a:1.0}", "{a:1e1}",
            "{a:1_0}", "{a:0x1}", "{a:a}", "{a:\xb2}", '{a:"1"}', "{a:" + "1" * 20 + "}", "{a:-" + "9" * 3000 + "}", "{a:}",
            "{a:" + "0" * 3000 + "}",
        )

    def test_each_byte_as_it_should_be_written(self):
        for byte in range(256):
            plain = '{a:"' + bytes([byte]).decode("latin-1") + '"}'
            escaped = '{a:"\\' + f"{byte:02x}" + '"}'
            if 32 <= byte <= 126 and byte not in (34, 92):
                self.taken("{1a!t1}", plain)
                self.refused("{1a!t1}", escaped)
            else:
                self.taken("{1a!t1}", escaped)
                self.refused("{1a!t1}", plain)

    def test_two_digits_of_base_sixteen(self):
        self.taken("{1a!t4}", '{a:"\\0a"}', '{a:"\\a0"}', '{a:"\\ffff"}', '{a:"\\1f0"}')
        self.refused(
            "{1a!t4}", '{a:"\\0A"}', '{a:"\\A0"}', '{a:"\\FF"}', '{a:"\\g0"}', '{a:"\\0g"}', '{a:"\\0"}', '{a:"\\"}', '{a:"\\n"}',
            '{a:"\\\\"}', '{a:"\\""}', '{a:"\\x0"}', '{a:"\\ 0"}', '{a:"\\0',
        )

    def test_quotes(self):
        self.taken("{1a!t4}", '{a:""}', '{a:"{}"}', '{a:",;:"}')
        self.refused("{1a!t4}", "{a:x}", '{a:"x}', '{a:x"}', "{a:'x'}", '{a:"x""y"}', '{a:"""}', "{a:0}", "{a:}")

    def test_length_is_in_bytes(self):
        self.taken("{1a!t1}", '{a:""}', '{a:"x"}', '{a:"\\00"}')
        self.refused("{1a!t1}", '{a:"xy"}', '{a:"\\00\\00"}', '{a:"\\00x"}')
        self.taken("{1a!t999}", '{a:"' + "x" * 999 + '"}', '{a:"' + "\\ff" * 999 + '"}')
        self.refused("{1a!t999}", '{a:"' + "x" * 1000 + '"}', '{a:"' + "\\ff" * 1000 + '"}', '{a:"' + "x" * 3900 + '"}')


class TheCall(unittest.TestCase):
    def test_numbers_from_zero_on(self):
        found = run(schema("{1a!b}"), begin(), *[put(0, "{a:1}") for number in range(5)])
        self.assertEqual(found[2:], [[0], [1], [2], [3], [4]])

    def test_no_number_twice_in_whatever_session(self):
        found = run(
            schema("{1a!b}"), begin(), begin(), put(0, "{a:1}"), put(1, "{a:1}"), put(0, "{a:1}"), begin(), put(2, "{a:1}"),
            put(1, "{a:1}"),
        )
        self.assertEqual(found[3:], [[0], [1], [2], [2], [3], [4]])

    def test_an_undone_number_is_not_given_again(self):
        found = run(
            schema("{1a!b}"), begin(), put(0, "{a:1}"), put(0, "{a:0}"), undo(0, 0), put(0, "{a:0}"), undo(0, 0),
            begin(), put(1, "{a:1}"), look(1, 0), look(1, 3), look(0, 2),
        )
        self.assertEqual(found[2:], [[0], [1], [0], [2], [0], [1], [3], [0], seen("{a:1}"), [0]])

    def test_a_refused_put_gives_no_number(self):
        found = run(schema("{1a!b}"), begin(), put(0, "{a:2}"), put(0, "{a:1}"), put(5, "{a:1}"), put(0, "{a:0}"))
        self.assertEqual(found[2:], [[-1], [0], [-3], [1]])

    def test_equal_rows_are_two(self):
        found = run(schema("{1a!b}"), begin(), put(0, "{a:1}"), put(0, "{a:1}"), look(0, 0), look(0, 1))
        self.assertEqual(found[2:], [[0], [1], seen("{a:1}"), seen("{a:1}")])


if __name__ == "__main__":
    unittest.main()
