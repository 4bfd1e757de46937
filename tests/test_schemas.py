"""Point 1, and what the words say of schemas."""

import unittest

from tests.helper import EXAMPLE_ROW, EXAMPLE_SCHEMA, begin, look, put, run, schema, schema_taken, seen

NAME_SIGNS = "abcdefghijklmnopqrstuvwxyz0123456789_"


def nested(groups, left="{", right="}"):
    """A schema whose innermost group is at depth `groups`; the inner ones are written with left and right."""
    return "{" + ("1a!" + left) * (groups - 1) + "1a!b" + right * (groups - 1) + "}"


def with_leaves(count):
    return "{" + ";".join(f"{number}n{number}!b" for number in range(1, count + 1)) + "}"


def of_length(length):
    """A schema of so many bytes, for lengths of about 1100 to 2000."""
    first = '{1a!t999="' + "x" * 999 + '";2b!t999="'
    return first + "y" * (length - len(first) - 2) + '"}'


class TakenOrNot(unittest.TestCase):
    def taken(self, *texts):
        for text in texts:
            with self.subTest(taken=text):
                self.assertTrue(schema_taken(text))

    def refused(self, *texts):
        for text in texts:
            with self.subTest(refused=text):
                self.assertEqual(run(schema(text)), [[-1]])


class Records(TakenOrNot):
    def test_document_example(self):
        self.taken(EXAMPLE_SCHEMA)

    def test_a_record_alone(self):
        self.taken("{1a!b}", "{1a!b;2b!b}")

    def test_nothing_but_a_whole_record(self):
        self.refused(
            "", "{", "}", "{}", "{;}", "{1a!b", "1a!b}", "1a!b", "{1a!b}}", "{1a!b};", "{1a!b}{1a!b}",
            "{1a!b}\n", "{1a!b;}", "{;1a!b}", "{1a!b;;2b!b}", "{1a!b,2b!b}", "{1a!b 2b!b}", "{1a!b2b!b}",
            "{1a!b>", "b", "T",
        )

    def test_outermost_is_no_choice(self):
        self.refused("<1a!b>", "<1a!{1b!b}>")

    def test_no_blanks(self):
        for place in range(len("{1a!i8=1;2b?t4}") + 1):
            text = "{1a!i8=1;2b?t4}"
            self.refused(text[:place] + " " + text[place:])

    def test_each_byte_counts(self):
        self.refused("{1a!b\0}", "\xff{1a!b}", "{1\xe4!b}", "{1a!b}\0")

    def test_cut_anywhere_is_none(self):
        for place in range(len(EXAMPLE_SCHEMA)):
            self.refused(EXAMPLE_SCHEMA[:place])

    def test_one_sign_left_out_of_a_group(self):
        self.refused("{1a!{}}", "{1a!<>}", "{1a!{1b!b}", "{1a!<1b!b}}", "{1a!{1b!b>}", "{1a!<1b!b>", "{1a!{1b!b;}}")

    def test_bytes(self):
        self.assertEqual(len(of_length(2000)), 2000)
        self.taken(of_length(1999), of_length(2000))
        self.refused(of_length(2001), of_length(2002))
        self.refused("{1a!b}" + "x" * 4994, "{" * 5000)


class Numbers(TakenOrNot):
    def test_range(self):
        self.taken("{1a!b}", "{9a!b}", "{10a!b}", "{999a!b}", "{1a!b;999b!b}")
        self.refused("{0a!b}", "{1000a!b}", "{9999999999999999999999a!b}", "{-1a!b}", "{a!b}", "{+1a!b}")

    def test_no_zero_in_front(self):
        self.refused("{01a!b}", "{00a!b}", "{001a!b}", "{1a!b;02b!b}")

    def test_rise_within_a_group(self):
        self.taken("{1a!b;2b!b;5c!b}", "{9a!b;10b!b}", "{99a!b;100b!b}")
        self.refused("{2a!b;1b!b}", "{1a!b;1b!b}", "{1a!b;3b!b;2c!b}", "{1a!b;3b!b;3c!b}", "{10a!b;9b!b}")
        self.refused("{1a!{2b!b;1c!b}}", "{1a!<1b!b;1c!b>}", "{1a!<3b!b;2c!b>}")

    def test_each_group_counts_for_itself(self):
        self.taken("{5a!{1b!b;2c!b};6d!<1e!b;9f!b>;7g!b}")


class Names(TakenOrNot):
    def test_length(self):
        self.taken("{1a!b}", "{1abcdefghijkl!b}")
        self.refused("{1!b}", "{1abcdefghijklm!b}", "{1" + "a" * 500 + "!b}")

    def test_signs(self):
        for sign in NAME_SIGNS:
            self.taken("{1a" + sign + "!b}")
        for sign in NAME_SIGNS[:26]:
            self.taken("{1" + sign + "!b}")
        self.refused("{1_!b}", "{1_a!b}", "{10!b}")
        for sign in "AZ-.:\"`{~/\xe4":
            self.refused("{1" + sign + "!b}", "{1a" + sign + "!b}", "{1a" + sign + "a!b}")

    def test_digits_begin_no_name(self):
        # All digits in front belong to the number.
        self.refused("{12!b}", "{1000a!b}", "{1234567a!b}")
        self.taken("{12a!b}", "{1a2!b}", "{1a12345!b}")

    def test_no_name_twice_in_a_group(self):
        self.refused("{1a!b;2a!b}", "{1a!b;2b!b;3a!b}", "{1ab!b;2ab!i8}", "{1x!{1a!b;2a!b}}", "{1x!<1a!b;2a!b>}")
        self.taken("{1a!b;2aa!b;3a_!b}", "{1a!{1a!b;2b!b};2b!{1a!b}}")


class Modes(TakenOrNot):
    def test_each_mode_at_a_leaf(self):
        self.taken("{1a!b}", "{1a?b}", "{1a*b}")
        self.refused("{1ab}", "{1a+b}", "{1a!!b}", "{1a?!b}", "{1a&b}", "{1a b}", "{1a#b}")

    def test_each_mode_at_a_group(self):
        for mode in "!?*":
            self.taken("{1a" + mode + "{1b!b}}", "{1a" + mode + "<1b!b>}")

    def test_one_in_a_choice(self):
        self.taken("{1a!<1b!b;2c!{1d?b}>}")
        for mode in "?*":
            self.refused("{1a!<1b" + mode + "b>}", "{1a!<1b!b;2c" + mode + "{1d!b}>}")
        self.refused("{1a!<1b%{1c!b}>}")

    def test_keyed_needs_a_record_with_a_key(self):
        self.taken("{1a%{1b!b}}", "{1a%{1b!i8;2c*t4}}", "{1a%{7b!t9;8c%{1d!b}}}", "{1a%{1b!b=1}}")
        self.refused(
            "{1a%b}", "{1a%i8}", "{1a%t4}", "{1a%<1b!b>}", "{1a%{1b?b}}", "{1a%{1b*b}}", "{1a%{1b!{1c!b}}}",
            "{1a%{1b!<1c!b>}}", "{1a%{1b%{1c!b}}}", "{1a%{1b?b;2c!b}}", "{1a%{1b!{1c!b};2d!b}}",
        )


class Kinds(TakenOrNot):
    def test_whole_numbers(self):
        self.taken("{1a!i2}", "{1a!i3}", "{1a!i9}", "{1a!i10}", "{1a!i63}", "{1a!i64}")
        self.refused(
            "{1a!i}", "{1a!i0}", "{1a!i1}", "{1a!i65}", "{1a!i100}", "{1a!i02}", "{1a!i064}", "{1a!i-2}", "{1a!i640}"
        )

    def test_texts(self):
        self.taken("{1a!t1}", "{1a!t9}", "{1a!t10}", "{1a!t100}", "{1a!t999}")
        self.refused("{1a!t}", "{1a!t0}", "{1a!t1000}", "{1a!t01}", "{1a!t099}", "{1a!t-1}", "{1a!t99999999999999}")

    def test_no_other_kind(self):
        self.refused("{1a!}", "{1a!b1}", "{1a!B}", "{1a!c}", "{1a!x8}", "{1a!8}", "{1a!I8}", "{1a![1b!b]}", "{1a!(1b!b)}")


class Defaults(TakenOrNot):
    def test_of_b(self):
        self.taken("{1a!b=0}", "{1a!b=1}")
        self.refused("{1a!b=}", "{1a!b=2}", "{1a!b=-1}", "{1a!b=-0}", "{1a!b=00}", "{1a!b=01}", "{1a!b=10}", '{1a!b="0"}')

    def test_of_i(self):
        self.taken("{1a!i2=-2}", "{1a!i2=1}", "{1a!i8=-128}", "{1a!i8=127}", "{1a!i8=0}", "{1a!i16=100}")
        self.refused("{1a!i2=-3}", "{1a!i2=2}", "{1a!i8=-129}", "{1a!i8=128}")
        self.taken("{1a!i64=-9223372036854775808}", "{1a!i64=9223372036854775807}")
        self.refused("{1a!i64=-9223372036854775809}", "{1a!i64=9223372036854775808}", "{1a!i64=" + "9" * 1500 + "}")
        self.refused(
            "{1a!i8=}", "{1a!i8=-}", "{1a!i8=-0}", "{1a!i8=00}", "{1a!i8=07}", "{1a!i8=-07}", "{1a!i8=+7}",
            "{1a!i8=--7}", "{1a!i8=7-}", '{1a!i8="7"}', "{1a!i8=x}", "{1a!i8=1=1}",
        )

    def test_of_t(self):
        self.taken('{1a!t1=""}', '{1a!t1="x"}', '{1a!t3="\\00\\22\\5c"}', '{1a!t9=" ~;}>="}', '{1a!t2="\\7f\\ff"}')
        self.refused('{1a!t1="xy"}', '{1a!t1="\\00\\00"}', "{1a!t1=x}", '{1a!t1="x}', '{1a!t1=x"}', '{1a!t1=}')
        self.refused('{1a!t9="\\41"}', '{1a!t9="\\5C"}', '{1a!t9="\\FF"}', '{1a!t9="\\"}', '{1a!t9="\\0"}', '{1a!t9="\\0g"}')
        self.refused('{1a!t9="\n"}', '{1a!t9="\x7f"}', '{1a!t9="\xe4"}', '{1a!t9="a"b"}', '{1a!t9=0}')

    def test_length_is_in_bytes(self):
        self.taken('{1a!t400="' + "\\00" * 400 + '"}')
        self.refused('{1a!t400="' + "\\00" * 401 + '"}')
        self.taken('{1a!t999="' + "x" * 999 + '"}')
        self.refused('{1a!t999="' + "x" * 1000 + '"}')

    def test_only_at_a_leaf_with_one_occurrence(self):
        self.refused("{1a?b=0}", "{1a*b=0}", "{1a?i8=3}", '{1a*t4="x"}')
        self.refused("{1a!{1b!b}=0}", "{1a!{1b!b}={b:0}}", "{1a!<1b!b>=0}", "{1a%{1b!b}=0}")

    def test_not_in_a_choice(self):
        self.refused("{1a!<1b!b=0>}", "{1a!<1b!b;2c!i8=1>}")
        self.taken("{1a!<1b!{1c!b=0}>}")


class Sizes(TakenOrNot):
    def test_depth(self):
        self.taken(nested(5), nested(6))
        self.refused(nested(7), nested(8), nested(300))
        self.taken(nested(6, "<", ">"))
        self.refused(nested(7, "<", ">"))
        self.refused("{1a!" * 490)

    def test_depth_is_no_count(self):
        self.taken("{" + ";".join(f"{number}n{number}!{{1a!b}}" for number in range(1, 21)) + "}")

    def test_leaves(self):
        self.taken(with_leaves(39), with_leaves(40))
        self.refused(with_leaves(41), with_leaves(60))

    def test_leaves_count_in_all_groups(self):
        twenty = with_leaves(20)
        choice = "<" + with_leaves(20)[1:-1] + ">"
        self.taken("{1a!" + twenty + ";2b*" + twenty + "}", "{1a!" + twenty + ";2b?" + choice + "}")
        self.refused("{1a!" + twenty + ";2b*" + twenty + ";3c!b}", "{1a!" + twenty + ";2b?" + choice + ";3c?b}")


class TheCall(unittest.TestCase):
    def test_nothing_is_left_of_what_was_before(self):
        found = run(
            schema("{1a!b}"), begin(), begin(), put(1, "{a:1}"), put(0, "{a:1}"),
            schema("{1b!b}"), look(0, 0), look(1, 0), begin(), look(0, 0), look(0, 1), put(0, "{a:1}"), put(0, "{b:1}"),
        )
        self.assertEqual(found[5:], [[0], [-3], [-3], [0], [0], [0], [-1], [0]])

    def test_the_same_schema_begins_anew_too(self):
        found = run(schema("{1a!b}"), begin(), put(0, "{a:1}"), schema("{1a!b}"), look(0, 0), begin(), put(0, "{a:0}"))
        self.assertEqual(found, [[0], [0], [0], [0], [-3], [0], [0]])

    def test_after_a_refusal_all_is_as_it_was(self):
        found = run(
            schema(EXAMPLE_SCHEMA), begin(), put(0, EXAMPLE_ROW), schema("{1a!b"), look(0, 0), begin(),
            put(1, EXAMPLE_ROW), schema("{2a!b;1b!b}"), look(1, 1),
        )
        self.assertEqual(
            found, [[0], [0], [0], [-1], seen(EXAMPLE_ROW), [1], [1], [-1], seen(EXAMPLE_ROW)]
        )

    def test_refused_before_there_is_one(self):
        self.assertEqual(run(schema("{}"), begin(), schema("{1a!b}"), begin()), [[-1], [-2], [0], [0]])


if __name__ == "__main__":
    unittest.main()
