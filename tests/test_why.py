"""Point 10: why a session can be taken, strictly or loosely, or can't."""

import unittest

from tests.helper import (
    LOOSE, STRICT, again, answered_behind, ask, begin, commit, drop, look, put, replace, row, rows, run, schema, seen,
    table_with, undo, why,
)

THREE = table_with("{a:1}", "{a:5}", "{a:7}")


def why_behind(deeds, *others):
    """What why answers of session 0 with these deeds, behind commits of one session each with the others' deeds."""
    calls = [begin()] + deeds
    for meanwhile in others:
        calls = calls + [begin()] + meanwhile + [commit(1, LOOSE)]
    found = answered_behind(THREE + calls, why(0), why(0))
    if found[0] != found[1]:
        raise AssertionError("why answers another thing the second time")
    return found[0]


class Takable(unittest.TestCase):
    def test_no_deeds(self):
        self.assertEqual(why_behind([]), [1, 1, 0])
        self.assertEqual(why_behind([], [drop(1, 0), replace(1, 1, "{a:9}")]), [1, 1, 0])
        self.assertEqual(answered_behind([schema("{1a!i8}"), begin()], why(0)), [[1, 1, 0]])

    def test_nobody_else_has_committed(self):
        deeds = [look(0, 0), put(0, "{a:2}"), ask(0, "T"), replace(0, 3, "{a:4}"), drop(0, 0), look(0, 0), drop(0, 9)]
        self.assertEqual(why_behind(deeds), [1, 1, 7])
        self.assertEqual(why_behind(deeds, []), [1, 1, 7])

    def test_both(self):
        deeds = [look(0, 0), replace(0, 0, "{a:2}"), ask(0, "(a<6)"), look(0, 1)]
        self.assertEqual(why_behind(deeds, [replace(1, 2, "{a:8}"), put(1, "{a:9}")]), [1, 1, 4])

    def test_strictly_but_not_loosely(self):
        self.assertEqual(why_behind([replace(0, 0, "{a:2}")], [replace(1, 0, "{a:9}")]), [1, 0, 1])
        self.assertEqual(why_behind([drop(0, 0), ask(0, "T")], [replace(1, 0, "{a:9}")]), [1, 0, 2])
        self.assertEqual(why_behind([look(0, 1), drop(0, 0)], [replace(1, 0, "{a:9}")]), [1, 0, 2])

    def test_loosely_but_not_strictly(self):
        self.assertEqual(why_behind([look(0, 0)], [replace(1, 0, "{a:9}")]), [0, 1, 0])
        self.assertEqual(why_behind([replace(0, 1, "{a:2}"), ask(0, "(a<3)")], [drop(1, 0)]), [0, 1, 1])
        self.assertEqual(why_behind([put(0, "{a:2}"), ask(0, "T"), drop(0, 0)], [drop(1, 2)]), [0, 1, 1])

    def test_neither(self):
        self.assertEqual(why_behind([look(0, 0), replace(0, 0, "{a:2}")], [replace(1, 0, "{a:9}")]), [0, 0, 0])
        self.assertEqual(why_behind([replace(0, 0, "{a:2}")], [drop(1, 0)]), [0, 0, 0])
        self.assertEqual(why_behind([look(0, 1), drop(0, 0)], [drop(1, 0)]), [0, 0, 1])

    def test_the_documents_example(self):
        start = table_with("{a:1}", "{a:5}") + [
            begin(), begin(), ask(0, "(a>3)"), replace(0, 0, "{a:9}"), ask(1, "(a<3)"), replace(1, 1, "{a:2}"),
            commit(0, STRICT),
        ]
        self.assertEqual(answered_behind(start, why(1)), [[0, 1, 0]])


class FirstUnlike(unittest.TestCase):
    def test_each_place(self):
        deeds = [look(0, 0), look(0, 1), look(0, 2)]
        for number in range(3):
            with self.subTest(number=number):
                self.assertEqual(why_behind(deeds, [replace(1, number, "{a:9}")]), [0, 1, number])

    def test_the_first_of_several(self):
        deeds = [look(0, 0), look(0, 1), look(0, 2), ask(0, "T")]
        self.assertEqual(why_behind(deeds, [drop(1, 2), drop(1, 1)]), [0, 1, 1])
        self.assertEqual(why_behind(deeds, [drop(1, 2)], [drop(1, 0)]), [0, 1, 0])

    def test_alike_ones_behind_it(self):
        deeds = [look(0, 0), look(0, 1), put(0, "{a:2}"), look(0, 3), look(0, 2)]
        self.assertEqual(why_behind(deeds, [drop(1, 1)]), [0, 1, 1])

    def test_deeds_are_done_to_what_those_before_them_leave(self):
        self.assertEqual(why_behind([drop(0, 0), look(0, 0), ask(0, "(a<5)")], [replace(1, 0, "{a:2}")]), [1, 0, 3])
        self.assertEqual(why_behind([replace(0, 0, "{a:3}"), look(0, 0)], [replace(1, 0, "{a:2}")]), [1, 0, 2])
        self.assertEqual(why_behind([drop(0, 0), drop(0, 0), replace(0, 0, "{a:2}")], [drop(1, 0)]), [0, 0, 0])
        deeds = [put(0, "{a:2}"), look(0, 3), replace(0, 3, "{a:4}"), look(0, 3), drop(0, 3), look(0, 3), drop(0, 3)]
        self.assertEqual(why_behind(deeds, [drop(1, 0)]), [1, 1, 7])

    def test_forty_deeds(self):
        deeds = [look(0, 1) for count in range(39)] + [look(0, 0)]
        self.assertEqual(why_behind(deeds), [1, 1, 40])
        self.assertEqual(why_behind(deeds, [drop(1, 0)]), [0, 1, 39])


class UnlikeReplies(unittest.TestCase):
    def unlike(self, deed, *others):
        self.assertEqual(why_behind([look(0, 9), deed, look(0, 9)], *others)[::2], [0, 1])

    def test_look(self):
        self.unlike(look(0, 0), [replace(1, 0, "{a:2}")])
        self.unlike(look(0, 0), [replace(1, 0, "{a:11}")])
        self.unlike(look(0, 0), [drop(1, 0)])
        self.unlike(look(0, 3), [put(1, "{a:2}")])

    def test_ask(self):
        self.unlike(ask(0, "(a<3)"), [replace(1, 0, "{a:3}")])
        self.unlike(ask(0, "(a<3)"), [replace(1, 1, "{a:2}")])
        self.unlike(ask(0, "(a<3)"), [drop(1, 0)])
        self.unlike(ask(0, "T"), [put(1, "{a:1}")])

    def test_ask_with_as_many_other_rows(self):
        self.unlike(ask(0, "(a<3)"), [replace(1, 0, "{a:3}"), replace(1, 1, "{a:2}")])
        self.unlike(ask(0, "T"), [drop(1, 0), put(1, "{a:1}")])

    def test_replace(self):
        self.unlike(replace(0, 0, "{a:2}"), [drop(1, 0)])
        self.unlike(replace(0, 3, "{a:2}"), [put(1, "{a:2}")])

    def test_drop(self):
        self.unlike(drop(0, 0), [drop(1, 0)])
        self.unlike(drop(0, 3), [put(1, "{a:2}")])


class AlikeReplies(unittest.TestCase):
    def alike(self, deed, *others):
        self.assertEqual(why_behind([look(0, 9), deed, look(0, 9)], *others)[::2], [1, 3])

    def test_look(self):
        self.alike(look(0, 0), [replace(1, 1, "{a:2}"), drop(1, 2), put(1, "{a:1}")])
        self.alike(look(0, 0), [replace(1, 0, "{a:1}")])
        self.alike(look(0, 0), [replace(1, 0, "{a:2}")], [replace(1, 0, "{a:1}")])
        self.alike(look(0, 4), [put(1, "{a:2}")])

    def test_ask(self):
        self.alike(ask(0, "(a<3)"), [replace(1, 0, "{a:2}"), replace(1, 1, "{a:6}"), drop(1, 2), put(1, "{a:8}")])
        self.alike(ask(0, "F"), [drop(1, 0), put(1, "{a:1}")])
        self.alike(ask(0, "T"), [replace(1, 0, "{a:2}"), put(1, "{a:1}"), drop(1, 3)])

    def test_replace(self):
        self.alike(replace(0, 0, "{a:2}"), [replace(1, 0, "{a:3}")])
        self.alike(replace(0, 4, "{a:2}"), [put(1, "{a:3}")])

    def test_drop(self):
        self.alike(drop(0, 0), [replace(1, 0, "{a:3}")])
        self.alike(drop(0, 4), [put(1, "{a:3}")])

    def test_put(self):
        self.alike(put(0, "{a:1}"), [put(1, "{a:1}"), drop(1, 0)])


class Loosely(unittest.TestCase):
    def loosely(self, deeds, *others):
        return why_behind(deeds, *others)[1]

    def test_replaced_meanwhile(self):
        for deed in [replace(0, 0, "{a:2}"), drop(0, 0)]:
            with self.subTest(deed=deed):
                self.assertEqual(self.loosely([deed], [replace(1, 0, "{a:3}")]), 0)
                self.assertEqual(self.loosely([deed], [replace(1, 0, "{a:2}")]), 0)
                self.assertEqual(self.loosely([deed], [replace(1, 0, "{a:1}")]), 1)
                self.assertEqual(self.loosely([deed], [replace(1, 0, "{a:3}")], [replace(1, 0, "{a:1}")]), 1)
                self.assertEqual(self.loosely([deed], [replace(1, 1, "{a:3}")]), 1)

    def test_dropped_meanwhile(self):
        for deed in [replace(0, 0, "{a:2}"), drop(0, 0)]:
            with self.subTest(deed=deed):
                self.assertEqual(self.loosely([deed], [drop(1, 0)]), 0)
                self.assertEqual(self.loosely([deed], [drop(1, 1)]), 1)

    def test_each_row_that_was_written(self):
        deeds = [replace(0, 0, "{a:2}"), put(0, "{a:2}"), drop(0, 1), replace(0, 2, "{a:2}")]
        for number in range(3):
            with self.subTest(number=number):
                self.assertEqual(self.loosely(deeds, [replace(1, number, "{a:9}")]), 0)
        self.assertEqual(self.loosely(deeds, [put(1, "{a:9}")]), 1)

    def test_rows_that_it_put(self):
        self.assertEqual(self.loosely([put(0, "{a:2}")], [put(1, "{a:9}")]), 1)
        self.assertEqual(self.loosely([put(0, "{a:2}"), drop(0, 3)], [drop(1, 0)]), 1)
        self.assertEqual(self.loosely([put(0, "{a:2}"), replace(0, 3, "{a:4}")], [drop(1, 0)]), 1)

    def test_written_back(self):
        self.assertEqual(self.loosely([replace(0, 0, "{a:1}")], [replace(1, 0, "{a:9}")]), 0)
        self.assertEqual(self.loosely([replace(0, 0, "{a:1}")], [replace(1, 1, "{a:9}")]), 1)

    def test_the_reply_no_writes_nothing(self):
        self.assertEqual(why_behind([drop(0, 3), replace(0, 3, "{a:2}")], [put(1, "{a:9}")]), [0, 1, 0])
        self.assertEqual(self.loosely([drop(0, 0), drop(0, 0)], [put(1, "{a:9}")]), 1)

    def test_reading_writes_nothing(self):
        self.assertEqual(self.loosely([look(0, 0), ask(0, "T")], [drop(1, 0), replace(1, 1, "{a:2}")]), 1)

    def test_what_was_undone_is_not_written(self):
        deeds = [look(0, 1), replace(0, 0, "{a:2}")]
        self.assertEqual(why_behind(deeds, [replace(1, 0, "{a:9}")]), [1, 0, 2])
        self.assertEqual(why_behind(deeds + [undo(0, 1)], [replace(1, 0, "{a:9}")]), [1, 1, 1])

    def test_row_zero_put_by_the_session_itself(self):
        start = [schema("{1a!i8}"), begin(), put(0, "{a:1}"), begin(), put(1, "{a:2}"), commit(1, LOOSE)]
        self.assertEqual(answered_behind(start, why(0)), [[1, 1, 1]])


class ChangesNothing(unittest.TestCase):
    def test_the_session_stays_as_it_is(self):
        start = THREE + [begin(), look(0, 0), replace(0, 1, "{a:2}"), begin(), replace(1, 0, "{a:9}"), commit(1, STRICT)]
        found = answered_behind(start, why(0), look(0, 0), look(0, 1), undo(0, 4), why(0), again(0))
        self.assertEqual(found, [[0, 1, 0], seen("{a:1}"), seen("{a:2}"), [4], [0, 1, 0], [2]])

    def test_the_table_stays_as_it_is(self):
        start = THREE + [begin(), put(0, "{a:2}"), drop(0, 0)]
        self.assertEqual(
            answered_behind(start, why(0), rows(), row(0), commit(0, STRICT)), [[1, 1, 2], [3, 0, 1, 2], seen("{a:1}"), [2]]
        )

    def test_is_no_deed(self):
        start = THREE + [begin()] + [why(0) for count in range(50)]
        self.assertEqual(answered_behind(start, look(0, 0), undo(0, 2), undo(0, 1)), [seen("{a:1}"), [-4], [1]])

    def test_of_one_session_alone(self):
        start = THREE + [begin(), begin(), begin(), look(0, 0), look(1, 1), look(2, 2), replace(2, 0, "{a:9}"), commit(2, LOOSE)]
        self.assertEqual(answered_behind(start, why(0), why(1)), [[0, 1, 0], [1, 1, 1]])


class Refused(unittest.TestCase):
    def test_no_session(self):
        found = answered_behind(THREE, why(0), begin(), why(0), why(1), why(-1), why(8))
        self.assertEqual(found, [[-3], [0], [1, 1, 0], [-3], [-3], [-3]])

    def test_no_schema(self):
        self.assertEqual(run(why(0), why(-1)), [[-2], [-2]])


if __name__ == "__main__":
    unittest.main()
