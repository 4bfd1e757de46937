"""The interface: how calls are written, how answers are laid out, and that nothing is changed or kept."""

import unittest

import manywriters.sessions
from tests.helper import (
    EXAMPLE_ROW, EXAMPLE_SCHEMA, GREATEST, LEAST, ask, begin, drop, in_bytes, joined, look, put, replace, schema, undo,
)

ORDINARY = [
    begin(), schema("{"), schema(EXAMPLE_SCHEMA), begin(), begin(), put(0, EXAMPLE_ROW), put(1, EXAMPLE_ROW), look(0, 0),
    look(0, 1), ask(0, "(id=5)"), ask(0, "F"), replace(0, 0, EXAMPLE_ROW), drop(0, 0), drop(0, 0), undo(0, 1), undo(0, LEAST),
    look(GREATEST, 0), look(0, GREATEST), put(0, ""), ask(0, ""), replace(0, LEAST, EXAMPLE_ROW),
]


class Layout(unittest.TestCase):
    def test_in_full(self):
        line = [
            0, 7, 123, 49, 97, 33, 105, 56, 125,
            1,
            2, 0, 5, 123, 97, 58, 49, 125,
            3, 0, 0,
            3, 0, 1,
            4, 0, 1, 84,
            4, 0, 1, 70,
            5, 0, 0, 5, 123, 97, 58, 50, 125,
            6, 0, 0,
            7, 0, 2,
            7, 0, 3,
        ]
        expected = [
            1, 0,
            1, 0,
            1, 0,
            6, 5, 123, 97, 58, 49, 125,
            1, 0,
            2, 1, 0,
            1, 0,
            1, 1,
            1, 1,
            1, 2,
            1, -4,
        ]
        self.assertEqual(manywriters.sessions.answers(line), expected)

    def test_empty_texts(self):
        line = [0, 0] + schema("{1a?b}") + [1, 2, 0, 0, 4, 0, 0, 5, 0, 0, 0, 1]
        self.assertEqual(manywriters.sessions.answers(line), [1, -1, 1, 0, 1, 0, 1, -1, 1, -1, 1, -1, 1, 1])

    def test_bytes_like_calls_are_no_calls(self):
        line = schema("\0\1\2\3\4\5\6\7") + begin()
        self.assertEqual(manywriters.sessions.answers(line), [1, -1, 1, -2])

    def test_numbers_like_calls_are_no_calls(self):
        line = schema("{1a?b}") + begin() + look(1, 1) + look(0, 1) + undo(0, 0)
        self.assertEqual(manywriters.sessions.answers(line), [1, 0, 1, 0, 1, -3, 1, 0, 1, 0])

    def test_longest_texts(self):
        longest = schema("x" * 5000) + schema("{1a?b}") + begin() + put(0, "x" * 5000) + ask(0, "x" * 1000)
        longest = longest + replace(0, 0, "x" * 5000)
        self.assertEqual(manywriters.sessions.answers(longest), [1, -1, 1, 0, 1, 0, 1, -1, 1, -1, 1, -1])

    def test_four_hundred_calls(self):
        line = schema("{1a?b}") + begin() + joined([undo(0, 0) for number in range(398)])
        self.assertEqual(manywriters.sessions.answers(line), [1, 0] * 400)

    def test_more_than_a_million_numbers(self):
        text = "{a:" + ",".join("7" * 1998) + "}"
        calls = schema("{1a*i8}")
        for session in range(8):
            calls = calls + begin()
        calls = calls + put(0, text) + joined([look(0, 0) for number in range(39)])
        rounds = joined([undo(0, 1)] + [look(0, 0) for number in range(39)])
        line = calls + rounds * 7
        expected_look = [len(text) + 1, len(text)] + in_bytes(text)
        found = manywriters.sessions.answers(line)
        self.assertGreater(len(found), 1000000)
        self.assertEqual(found[-len(expected_look) * 39:], expected_look * 39)


class NothingKept(unittest.TestCase):
    def test_what_is_handed_in_stays(self):
        line = joined(ORDINARY)
        before = list(line)
        manywriters.sessions.answers(line)
        self.assertEqual(line, before)

    def test_a_second_time_is_as_the_first(self):
        line = joined(ORDINARY)
        first = manywriters.sessions.answers(line)
        kept = list(first)
        second = manywriters.sessions.answers(line)
        self.assertEqual(first, second)
        first.clear()
        self.assertEqual(manywriters.sessions.answers(line), kept)
        self.assertEqual(manywriters.sessions.answers(begin()), [1, -2])

    def test_kinds(self):
        found = manywriters.sessions.answers(joined(ORDINARY))
        self.assertIs(type(found), list)
        self.assertEqual({type(number) for number in found}, {int})


if __name__ == "__main__":
    unittest.main()
