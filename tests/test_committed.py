"""Points 14 and 15: the committed rows, now and as earlier commits left them."""

import unittest

from tests.helper import (
    EXAMPLE_ROW, EXAMPLE_SCHEMA, GREATEST, LEAST, LOOSE, STRICT, again, answered_behind, ask, begin, close, commit, drop, look,
    put, replace, row, rows, run, schema, seen, table_with, then, undo,
)

EMPTY = [schema("{1a!i8}")]
# Behind four commits: none, rows 0 and 1, rows 0 to 3, rows 1 to 3, rows 1 to 3 once more.
FOUR = EMPTY + [
    begin(), put(0, "{a:1}"), put(0, "{a:2}"), commit(0, STRICT),
    begin(), put(0, "{a:3}"), put(0, "{a:4}"), replace(0, 1, "{a:9}"), commit(0, LOOSE),
    begin(), drop(0, 0), commit(0, STRICT),
    begin(), ask(0, "T"), commit(0, STRICT),
]


class Rows(unittest.TestCase):
    def test_before_the_first_commit(self):
        self.assertEqual(answered_behind(EMPTY, rows()), [[0]])
        self.assertEqual(answered_behind(EMPTY + [begin(), put(0, "{a:1}")], rows()), [[0]])

    def test_behind_each_commit(self):
        found = run(*FOUR[:5], rows(), *FOUR[5:10], rows(), *FOUR[10:13], rows(), *FOUR[13:], rows())
        self.assertEqual([found[5], found[11], found[15], found[19]], [[2, 0, 1], [4, 0, 1, 2, 3], [3, 1, 2, 3], [3, 1, 2, 3]])

    def test_rising_whatever_the_order_of_commits(self):
        calls = [begin(), begin(), begin(), put(0, "{a:1}"), put(1, "{a:2}"), put(2, "{a:3}"), put(0, "{a:4}")]
        found = answered_behind(EMPTY + calls + [commit(2, LOOSE), commit(0, STRICT), commit(1, LOOSE)], rows(), then(1), then(2), then(3))
        self.assertEqual(found, [[4, 0, 1, 2, 3], [1, 2], [3, 0, 2, 3], [4, 0, 1, 2, 3]])

    def test_sixty(self):
        calls = [begin()] + [put(0, "{a:1}") for count in range(40)] + [begin()] + [put(1, "{a:1}") for count in range(20)]
        found = answered_behind(EMPTY + calls + [commit(1, LOOSE), commit(0, STRICT)], rows(), then(1), then(2))
        self.assertEqual(found, [[60] + list(range(60)), [20] + list(range(40, 60)), [60] + list(range(60))])


class Row(unittest.TestCase):
    def test_its_text(self):
        self.assertEqual(answered_behind(FOUR, row(1), row(2), row(3)), [seen("{a:9}"), seen("{a:3}"), seen("{a:4}")])

    def test_none_of_this_number(self):
        numbers = [0, 4, -1, 60, LEAST, GREATEST]
        self.assertEqual(answered_behind(FOUR, *[row(number) for number in numbers]), [[-4]] * 6)

    def test_before_the_first_commit(self):
        self.assertEqual(answered_behind(EMPTY + [begin(), put(0, "{a:1}")], row(0), row(1), row(-1), commit(0, LOOSE), row(0)), [[-4], [-4], [-4], [1], seen("{a:1}")])

    def test_replaced_and_dropped(self):
        start = FOUR + [begin(), replace(0, 1, "{a:11}"), drop(0, 2), commit(0, STRICT)]
        self.assertEqual(answered_behind(start, row(1), row(2), row(3)), [seen("{a:11}"), [-4], seen("{a:4}")])

    def test_a_long_one_and_a_short_one(self):
        text = "{a:" + ",".join("7" * 1998) + "}"
        text = text.replace("{a:7,", "{a:-7,")
        found = run(schema("{1a*i8}"), begin(), put(0, text), put(0, "{}"), commit(0, STRICT), row(0), row(1))
        self.assertEqual(found[5:], [seen(text), [2, 123, 125]])
        self.assertEqual(len(found[5]), 4001)

    def test_of_the_documents_schema(self):
        found = run(schema(EXAMPLE_SCHEMA), begin(), put(0, EXAMPLE_ROW), commit(0, LOOSE), row(0), begin(), look(0, 0))
        self.assertEqual([found[4], found[6]], [seen(EXAMPLE_ROW)] * 2)


class Then(unittest.TestCase):
    def test_behind_each_commit(self):
        found = answered_behind(FOUR, then(0), then(1), then(2), then(3), then(4))
        self.assertEqual(found, [[0], [2, 0, 1], [4, 0, 1, 2, 3], [3, 1, 2, 3], [3, 1, 2, 3]])

    def test_range(self):
        numbers = [5, -1, 6, 60, LEAST, GREATEST]
        self.assertEqual(answered_behind(FOUR, *[then(number) for number in numbers]), [[-4]] * 6)

    def test_before_the_first_commit(self):
        self.assertEqual(answered_behind(EMPTY, then(0), then(1), then(-1), then(LEAST), then(GREATEST)), [[0], [-4], [-4], [-4], [-4]])
        self.assertEqual(answered_behind(EMPTY + [begin(), put(0, "{a:1}")], then(0), then(1)), [[0], [-4]])

    def test_answers_as_it_did_whatever_was_committed_since(self):
        earlier = [then(0), then(1), then(2), then(3), then(4)]
        expected = answered_behind(FOUR, *earlier)
        more = [begin(), put(0, "{a:5}"), drop(0, 1), replace(0, 2, "{a:6}"), commit(0, LOOSE)]
        found = answered_behind(FOUR + more, *earlier, then(5), then(6))
        self.assertEqual(found, expected + [[3, 2, 3, 4], [-4]])
        more = more + [begin(), drop(0, 2), drop(0, 3), drop(0, 4), commit(0, STRICT)]
        found = answered_behind(FOUR + more, *earlier, then(5), then(6), rows())
        self.assertEqual(found, expected + [[3, 2, 3, 4], [0], [0]])

    def test_the_last_is_as_rows_answers(self):
        found = run(*FOUR[:5], rows(), then(1), *FOUR[5:10], rows(), then(2), *FOUR[10:13], rows(), then(3), *FOUR[13:], rows(), then(4))
        for place in (5, 12, 17, 22):
            self.assertEqual(found[place], found[place + 1])

    def test_sixty_commits(self):
        calls = []
        for number in range(60):
            calls = calls + [begin(), put(0, "{a:1}"), commit(0, number % 2)]
        found = answered_behind(EMPTY + calls, *[then(count) for count in range(62)])
        self.assertEqual(found, [[count] + list(range(count)) for count in range(61)] + [[-4]])


class OpenSessions(unittest.TestCase):
    def test_change_none_of_the_answers(self):
        calls = [rows(), row(0), row(1), row(2), row(4), then(0), then(2), then(4), then(5)]
        expected = answered_behind(FOUR, *calls)
        deeds = [begin(), begin(), put(0, "{a:5}"), drop(0, 1), replace(0, 2, "{a:6}"), replace(1, 1, "{a:7}"), ask(1, "T"), look(0, 4)]
        self.assertEqual(answered_behind(FOUR + deeds, *calls), expected)
        self.assertEqual(answered_behind(FOUR + deeds + [undo(0, 2), again(0), again(1)], *calls), expected)
        self.assertEqual(answered_behind(FOUR + deeds + [close(0), close(1)], *calls), expected)

    def test_are_not_changed_by_them(self):
        calls = [rows(), row(1), row(9), then(0), then(4), then(9)]
        start = FOUR + [begin(), drop(0, 1)] + calls[:2] + calls[3:5]
        self.assertEqual(answered_behind(start, ask(0, "T"), undo(0, 3), undo(0, 2), put(0, "{a:1}"), begin()), [[2, 2, 3], [-4], [2], [4], [1]])

    def test_none_is_needed(self):
        self.assertEqual(answered_behind(table_with("{a:1}"), rows(), row(0), then(1)), [[1, 0], seen("{a:1}"), [1, 0]])


class NoSchema(unittest.TestCase):
    def test_refused_first(self):
        calls = [rows(), row(0), row(-1), row(LEAST), row(GREATEST), then(0), then(-1), then(1), then(LEAST), then(GREATEST)]
        self.assertEqual(run(*calls), [[-2]] * 10)


if __name__ == "__main__":
    unittest.main()
