"""The interface: how calls are written, how answers are laid out, and that nothing is changed or kept."""

import time
import unittest

import manywriters.sessions
from tests.helper import (
    EXAMPLE_ROW, EXAMPLE_SCHEMA, GREATEST, LEAST, LOOSE, STRICT, again, ask, begin, close, commit, drop, in_bytes, joined,
    look, put, replace, row, rows, schema, seen, taken_apart, then, undo, why,
)

ORDINARY = [
    begin(), schema("{"), schema(EXAMPLE_SCHEMA), begin(), begin(), put(0, EXAMPLE_ROW), put(1, EXAMPLE_ROW), look(0, 0),
    look(0, 1), ask(0, "(id=5)"), ask(0, "F"), replace(0, 0, EXAMPLE_ROW), drop(0, 0), drop(0, 0), undo(0, 1), undo(0, LEAST),
    look(GREATEST, 0), look(0, GREATEST), put(0, ""), ask(0, ""), replace(0, LEAST, EXAMPLE_ROW), why(0), why(1), again(0),
    ask(1, "T"), commit(0, STRICT), commit(1, 2), commit(1, STRICT), why(1), again(1), commit(1, LOOSE), commit(1, LOOSE),
    rows(), row(0), row(9), row(LEAST), then(0), then(1), then(2), then(GREATEST), begin(), drop(0, 0), begin(), close(0),
    close(0), commit(1, STRICT), rows(), then(3),
]


class Layout(unittest.TestCase):
    def test_in_full(self):
        line = [
            0, 7, 123, 49, 97, 33, 105, 56, 125,
            1,
            2, 0, 5, 123, 97, 58, 49, 125,
            3, 0, 0,
            3, 0, 1,
            4, 0, 1, 84,
            4, 0, 1, 70,
            5, 0, 0, 5, 123, 97, 58, 50, 125,
            6, 0, 0,
            7, 0, 2,
            7, 0, 3,
        ]
        expected = [
            1, 0,
            1, 0,
            1, 0,
            6, 5, 123, 97, 58, 49, 125,
            1, 0,
            2, 1, 0,
            1, 0,
            1, 1,
            1, 1,
            1, 2,
            1, -4,
        ]
        self.assertEqual(manywriters.sessions.answers(line), expected)

    def test_in_full_with_commits(self):
        line = [
            0, 7, 123, 49, 97, 33, 105, 56, 125,
            1,
            2, 0, 5, 123, 97, 58, 49, 125,
            8, 0,
            9, 0,
            10, 0, 1,
            10, 0, 1,
            1,
            11, 0,
            12,
            13, 0,
            13, 1,
            14, 0,
            14, 1,
            14, 2,
        ]
        expected = [
            1, 0,
            1, 0,
            1, 0,
            3, 1, 1, 1,
            1, 0,
            1, 1,
            1, -3,
            1, 0,
            1, 0,
            2, 1, 0,
            6, 5, 123, 97, 58, 49, 125,
            1, -4,
            1, 0,
            2, 1, 0,
            1, -4,
        ]
        self.assertEqual(manywriters.sessions.answers(line), expected)

    def test_numbers_like_later_calls_are_no_calls(self):
        line = schema("{1a?b}") + commit(10, 12) + row(13) + then(14) + then(12) + why(8) + again(9) + close(11) + rows()
        self.assertEqual(manywriters.sessions.answers(line), [1, 0, 1, -3, 1, -4, 1, -4, 1, -4, 1, -3, 1, -3, 1, -3, 1, 0])

    def test_empty_texts(self):
        line = [0, 0] + schema("{1a?b}") + [1, 2, 0, 0, 4, 0, 0, 5, 0, 0, 0, 1]
        self.assertEqual(manywriters.sessions.answers(line), [1, -1, 1, 0, 1, 0, 1, -1, 1, -1, 1, -1, 1, 1])

    def test_bytes_like_calls_are_no_calls(self):
        line = schema("\0\1\2\3\4\5\6\7") + begin()
        self.assertEqual(manywriters.sessions.answers(line), [1, -1, 1, -2])

    def test_numbers_like_calls_are_no_calls(self):
        line = schema("{1a?b}") + begin() + look(1, 1) + look(0, 1) + undo(0, 0)
        self.assertEqual(manywriters.sessions.answers(line), [1, 0, 1, 0, 1, -3, 1, 0, 1, 0])

    def test_longest_texts(self):
        longest = schema("x" * 5000) + schema("{1a?b}") + begin() + put(0, "x" * 5000) + ask(0, "x" * 1000)
        longest = longest + replace(0, 0, "x" * 5000)
        self.assertEqual(manywriters.sessions.answers(longest), [1, -1, 1, 0, 1, 0, 1, -1, 1, -1, 1, -1])

    def test_four_hundred_calls(self):
        line = schema("{1a?b}") + begin() + joined([undo(0, 0) for number in range(398)])
        self.assertEqual(manywriters.sessions.answers(line), [1, 0] * 400)

    def test_more_than_a_million_numbers(self):
        text = "{a:" + ",".join("7" * 1998) + "}"
        calls = schema("{1a*i8}")
        for session in range(8):
            calls = calls + begin()
        calls = calls + put(0, text) + joined([look(0, 0) for number in range(39)])
        rounds = joined([undo(0, 1)] + [look(0, 0) for number in range(39)])
        line = calls + rounds * 7
        expected_look = [len(text) + 1, len(text)] + in_bytes(text)
        found = manywriters.sessions.answers(line)
        self.assertGreater(len(found), 1000000)
        self.assertEqual(found[-len(expected_look) * 39:], expected_look * 39)


class Time(unittest.TestCase):
    """Lines that would take minutes if each call went through all rows and deeds anew; seconds are allowed for."""

    LONG_ROW = "{a:" + ",".join("1" * 1998) + "}"

    def answered(self, *calls):
        line = joined(calls)
        self.assertLessEqual(len(calls), 400)
        self.assertLessEqual(len(line), 17000)
        start = time.perf_counter()
        found = manywriters.sessions.answers(line)
        self.assertLess(time.perf_counter() - start, 20)
        return taken_apart(found)

    def test_long_rows_asked_again_and_again(self):
        condition = "|[" + ",".join(["(a>9)"] * 82) + "]"
        start = [schema("{1a*i8}"), begin(), put(0, self.LONG_ROW), put(0, self.LONG_ROW), commit(0, STRICT), begin()]
        asks = [ask(0, condition) for count in range(15)]
        found = self.answered(*start, *asks, *[why(0) for count in range(180)], *[again(0) for count in range(180)])
        self.assertEqual(found[6:21], [[0]] * 15)
        self.assertEqual(found[21:], [[1, 1, 15]] * 180 + [[0]] * 180)

    def test_long_rows_asked_behind_many_commits(self):
        condition = "|[" + ",".join(["(a>9)"] * 82) + "]"
        start = [schema("{1a*i8}"), begin(), put(0, self.LONG_ROW), put(0, self.LONG_ROW), commit(0, STRICT), begin()]
        asks = [ask(0, condition) for count in range(12)]
        rounds = [begin(), put(1, "{a:7}"), commit(1, STRICT), why(0), again(0)] * 58
        found = self.answered(*start, *asks, *rounds, rows())
        self.assertEqual(found[-3:], [[1, 1, 12], [0], [60] + list(range(60))])

    def test_eight_sessions_with_forty_deeds_each(self):
        first = [schema("{1a!i8}"), begin()] + [put(0, "{a:" + str(number) + "}") for number in range(30)] + [commit(0, STRICT)]
        opened = [begin() for count in range(8)]
        deeds = []
        for session in range(8):
            deeds = deeds + [ask(session, "(a<" + str(number) + ")") for number in range(39)]
            deeds = deeds + [replace(session, session, "{a:100}")]
        found = self.answered(*first, *opened, *deeds, why(7), commit(0, STRICT), *[why(session) for session in range(1, 8)])
        # The row that session 0 replaced, number 0, was held by (a<1) and all behind it.
        self.assertEqual(found[-9:], [[1, 1, 40], [2]] + [[0, 1, 1]] * 7)

    def test_long_rows_looked_at_by_all(self):
        first = [schema("{1a*i8}"), begin(), put(0, self.LONG_ROW), commit(0, STRICT)] + [begin() for count in range(8)]
        looks = [look(session, 0) for session in range(8) for count in range(40)]
        others = [why(session) for session in range(8)] * 3 + [again(session) for session in range(8)] * 3 + [row(0)] * 20
        found = self.answered(*first, *looks, *others)
        self.assertEqual(found[12:332], [seen(self.LONG_ROW)] * 320)
        self.assertEqual(found[332:], [[1, 1, 40]] * 24 + [[0]] * 24 + [seen(self.LONG_ROW)] * 20)
        self.assertGreater(sum(len(answer) for answer in found), 1000000)

    def test_looks_done_once_more_in_most_calls(self):
        first = [schema("{1a*i8}"), begin(), put(0, self.LONG_ROW), commit(0, STRICT), begin()]
        found = self.answered(*first, *[look(0, 0) for count in range(40)], *[why(0), again(0), undo(0, 40)] * 118)
        self.assertEqual(found[-3:], [[1, 1, 40], [0], [40]])


class NothingKept(unittest.TestCase):
    def test_what_is_handed_in_stays(self):
        line = joined(ORDINARY)
        before = list(line)
        manywriters.sessions.answers(line)
        self.assertEqual(line, before)

    def test_a_second_time_is_as_the_first(self):
        line = joined(ORDINARY)
        first = manywriters.sessions.answers(line)
        kept = list(first)
        second = manywriters.sessions.answers(line)
        self.assertEqual(first, second)
        first.clear()
        self.assertEqual(manywriters.sessions.answers(line), kept)
        self.assertEqual(manywriters.sessions.answers(begin()), [1, -2])

    def test_kinds(self):
        found = manywriters.sessions.answers(joined(ORDINARY))
        self.assertIs(type(found), list)
        self.assertEqual({type(number) for number in found}, {int})


if __name__ == "__main__":
    unittest.main()
