"""Point 13: a session given up, and its number."""

import unittest

from tests.helper import (
    GREATEST, LEAST, LOOSE, STRICT, answered_behind, again, ask, begin, close, commit, drop, look, put, replace, row, rows,
    run, schema, seen, table_with, then, undo, why,
)

THREE = table_with("{a:1}", "{a:5}", "{a:7}")


class ItsNumber(unittest.TestCase):
    def test_is_free(self):
        found = answered_behind(THREE + [begin(), begin(), begin()], close(1), begin(), begin(), close(0), close(3), begin(), begin())
        self.assertEqual(found, [[0], [1], [3], [0], [0], [0], [3]])

    def test_eight_are_open_no_more(self):
        found = answered_behind(THREE + [begin() for count in range(8)], begin(), close(7), begin(), begin(), close(0), begin())
        self.assertEqual(found, [[-5], [0], [7], [-5], [0], [0]])

    def test_the_new_session_has_no_deeds(self):
        found = answered_behind(THREE + [begin(), drop(0, 0), drop(0, 1)], close(0), begin(), undo(0, 1), why(0), ask(0, "T"))
        self.assertEqual(found, [[0], [0], [-4], [1, 1, 0], [3, 0, 1, 2]])

    def test_the_new_session_has_a_new_base(self):
        start = THREE + [begin(), begin(), drop(1, 0), commit(1, STRICT)]
        found = answered_behind(start, look(0, 0), close(0), begin(), look(0, 0), why(0))
        self.assertEqual(found, [seen("{a:1}"), [0], [0], [0], [1, 1, 1]])

    def test_the_new_session_may_do_forty_deeds(self):
        forty = [look(0, 0) for count in range(40)]
        found = answered_behind(THREE + [begin()] + forty + [close(0), begin()] + forty, look(0, 0))
        self.assertEqual(found, [[-6]])


class WhatItDid(unittest.TestCase):
    def test_is_nowhere(self):
        start = THREE + [begin(), begin(), put(0, "{a:2}"), replace(0, 0, "{a:3}"), drop(0, 1)]
        calls = [rows(), row(0), row(1), row(3), then(0), then(1), then(2), ask(1, "T"), look(1, 0), look(1, 3), why(1), begin(), ask(2, "T")]
        found = answered_behind(start + [close(0)], *calls[:-2], begin(), ask(0, "T"))
        self.assertEqual(
            found,
            [[3, 0, 1, 2], seen("{a:1}"), seen("{a:5}"), [-4], [0], [3, 0, 1, 2], [-4], [3, 0, 1, 2], seen("{a:1}"), [0], [1, 1, 3]]
            + [[0], [3, 0, 1, 2]],
        )
        self.assertEqual(found[:11], answered_behind(start, *calls)[:11])

    def test_its_rows_numbers_are_not_given_again(self):
        start = THREE + [begin(), put(0, "{a:2}"), put(0, "{a:2}"), close(0), begin()]
        self.assertEqual(answered_behind(start, put(0, "{a:3}"), look(0, 3), look(0, 4), look(0, 5)), [[5], [0], [0], seen("{a:3}")])

    def test_is_no_commit(self):
        self.assertEqual(answered_behind(THREE + [begin(), put(0, "{a:2}")], close(0), then(2), begin(), commit(0, LOOSE)), [[0], [-4], [0], [2]])

    def test_of_one_session_alone(self):
        start = THREE + [begin(), begin(), drop(0, 0), drop(1, 1), close(0)]
        self.assertEqual(answered_behind(start, ask(1, "T"), commit(1, STRICT), rows()), [[2, 0, 2], [2], [2, 0, 2]])

    def test_does_not_stand_in_the_way_of_others(self):
        start = THREE + [begin(), begin(), replace(0, 0, "{a:2}"), look(1, 0), replace(1, 0, "{a:3}"), close(0)]
        self.assertEqual(answered_behind(start, why(1), commit(1, STRICT), row(0)), [[1, 1, 2], [2], seen("{a:3}")])

    def test_a_session_that_is_not_takable(self):
        start = THREE + [begin(), look(0, 0), drop(0, 0), begin(), drop(1, 0), commit(1, STRICT)]
        self.assertEqual(answered_behind(start, why(0), close(0), rows(), why(0)), [[0, 0, 0], [0], [2, 1, 2], [-3]])


class Refused(unittest.TestCase):
    def test_no_session(self):
        for session in [0, 1, 8, -1, LEAST, GREATEST]:
            with self.subTest(session=session):
                self.assertEqual(answered_behind(THREE, close(session)), [[-3]])

    def test_closed_already(self):
        calls = [
            close(0), commit(0, 0), commit(0, 1), why(0), again(0), undo(0, 0), put(0, "{a:1}"), look(0, 0), ask(0, "T"),
            replace(0, 0, "{a:1}"), drop(0, 0),
        ]
        self.assertEqual(answered_behind(THREE + [begin(), close(0)], *calls), [[-3]] * len(calls))

    def test_others_stay(self):
        found = answered_behind(THREE + [begin(), put(0, "{a:2}")], close(1), close(-1), look(0, 3), close(0))
        self.assertEqual(found, [[-3], [-3], seen("{a:2}"), [0]])

    def test_no_schema(self):
        self.assertEqual(run(close(0), close(-1), schema("{1a!i8}"), close(0)), [[-2], [-2], [0], [-3]])


if __name__ == "__main__":
    unittest.main()
