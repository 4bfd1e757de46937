"""Points 1 to 4, 6, 8 and 9: sessions, their deeds, and which refusal comes first."""

import unittest

from tests.helper import (
    EXAMPLE_ROW, EXAMPLE_SCHEMA, GREATEST, LEAST, LOOSE, STRICT, again, answered_behind, ask, begin, close, commit, drop,
    look, put, replace, row, rows, run, schema, seen, table_with, then, undo, why,
)

START = [schema("{1a!i8}"), begin()]
NO_SESSIONS = [-1, 1, 7, 8, LEAST, GREATEST]


def answered(*calls):
    """The answers to calls on a table with one session, number 0."""
    found = run(*START, *calls)
    return found[len(START):]


def each_deed(session):
    return [put(session, "{a:1}"), look(session, 0), ask(session, "T"), replace(session, 0, "{a:2}"), drop(session, 0)]


def each_in_session(session):
    """Each call that names a session, in the order of the calls' numbers; the last one closes it."""
    others = [undo(session, 0), why(session), again(session), commit(session, LOOSE), commit(session, STRICT), close(session)]
    return each_deed(session) + others


class NoSchema(unittest.TestCase):
    def test_each_call_is_refused(self):
        calls = [begin()] + each_in_session(0) + [rows(), row(0), then(0)]
        self.assertEqual(run(*calls), [[-2]] * len(calls))

    def test_looked_at_first(self):
        calls = [
            put(-1, "x"), put(0, ""), ask(9, "x"), replace(0, -1, "x"), look(LEAST, 0), drop(GREATEST, 0), undo(9, -1),
            why(-1), again(8), commit(0, 2), commit(9, LEAST), close(GREATEST), row(-1), then(-1), then(GREATEST),
        ]
        self.assertEqual(run(*calls), [[-2]] * len(calls))

    def test_a_refused_schema_is_none(self):
        self.assertEqual(run(schema("{1a!i8"), begin(), look(0, 0)), [[-1], [-2], [-2]])

    def test_refused_calls_leave_nothing(self):
        found = run(begin(), put(0, "{a:1}"), schema("{1a!i8}"), look(0, 0), begin(), put(0, "{a:1}"))
        self.assertEqual(found, [[-2], [-2], [0], [-3], [0], [0]])



class Begin(unittest.TestCase):
    def test_eight_at_a_time(self):
        found = run(schema("{1a!i8}"), *[begin() for number in range(10)], look(7, 0), look(8, 0))
        self.assertEqual(found[1:], [[0], [1], [2], [3], [4], [5], [6], [7], [-5], [-5], [0], [-3]])

    def test_a_refused_one_leaves_all_as_it_was(self):
        found = run(
            schema("{1a!i8}"), begin(), put(0, "{a:1}"), *[begin() for number in range(8)], look(0, 0), put(7, "{a:1}"), undo(0, 1)
        )
        self.assertEqual(found[10:], [[-5], seen("{a:1}"), [1], [1]])

    def test_has_no_deeds(self):
        self.assertEqual(answered(put(0, "{a:1}"), begin(), undo(1, 1), undo(1, 0)), [[0], [1], [-4], [0]])

    def test_nobody_sees_what_another_has_done(self):
        found = answered(
            put(0, "{a:1}"), begin(), look(1, 0), ask(1, "T"), replace(1, 0, "{a:2}"), drop(1, 0), look(0, 0),
            put(1, "{a:3}"), look(0, 1), drop(0, 1), look(1, 1), ask(0, "T"), ask(1, "T"),
        )
        self.assertEqual(
            found, [[0], [1], [0], [0], [0], [0], seen("{a:1}"), [1], [0], [0], seen("{a:3}"), [1, 0], [1, 1]]
        )

    def test_all_eight_have_rows_of_their_own(self):
        calls = [begin() for number in range(7)]
        calls = calls + [put(session, "{a:" + str(session) + "}") for session in range(8)]
        calls = calls + [ask(session, "T") for session in range(8)]
        found = answered(*calls)
        self.assertEqual(found[7:], [[number] for number in range(8)] + [[1, number] for number in range(8)])


class NoSession(unittest.TestCase):
    def test_never_opened(self):
        for session in NO_SESSIONS:
            for call in each_in_session(session):
                with self.subTest(call=call):
                    self.assertEqual(answered(call, put(0, "{a:1}"), why(0)), [[-3], [0], [1, 1, 1]])

    def test_closed_or_committed(self):
        for end in [close(0), commit(0, LOOSE), commit(0, STRICT)]:
            for call in each_in_session(0):
                with self.subTest(end=end, call=call):
                    found = answered_behind(START + [put(0, "{a:1}"), end], call, begin(), put(0, "{a:1}"), why(0))
                    self.assertEqual(found, [[-3], [0], [1], [1, 1, 1]])

    def test_closed_or_committed_while_others_are_open(self):
        for end in [close(1), commit(1, LOOSE), commit(1, STRICT)]:
            for call in each_in_session(1):
                with self.subTest(end=end, call=call):
                    found = answered_behind(START + [begin(), begin(), end], call, look(0, 0), look(2, 0), begin(), begin())
                    self.assertEqual(found, [[-3], [0], [0], [1], [3]])

    def test_of_an_earlier_schema(self):
        for call in each_in_session(0):
            with self.subTest(call=call):
                found = answered_behind(table_with("{a:1}") + [begin(), look(0, 0), schema("{1a!i8}")], call, rows(), then(1))
                self.assertEqual(found, [[-3], [0], [-4]])


class SchemaAnew(unittest.TestCase):
    FULL = table_with("{a:1}", "{a:5}") + [begin(), begin(), put(0, "{a:2}"), look(1, 0), begin(), commit(2, LOOSE)]

    def test_no_rows_no_commits_no_sessions(self):
        found = answered_behind(
            self.FULL + [schema("{1b!i8}")], rows(), row(0), then(0), then(1), look(0, 0), why(1), commit(0, STRICT), close(1),
            begin(), ask(0, "T"), put(0, "{b:1}"), put(0, "{a:1}"), why(0), commit(0, STRICT), rows(), row(0), then(1), then(2),
        )
        self.assertEqual(
            found,
            [[0], [-4], [0], [-4], [-3], [-3], [-3], [-3], [0], [0], [0], [-1], [1, 1, 2], [1], [1, 0], seen("{b:1}")]
            + [[1, 0], [-4]],
        )

    def test_the_same_schema_too(self):
        found = answered_behind(self.FULL + [schema("{1a!i8}")], rows(), row(0), then(0), then(1), begin(), look(0, 0), put(0, "{a:1}"))
        self.assertEqual(found, [[0], [-4], [0], [-4], [0], [0], [0]])

    def test_a_refused_one_leaves_all_as_it_was(self):
        calls = [
            rows(), row(0), row(1), then(0), then(1), then(2), then(3), look(0, 2), why(0), why(1), again(1), commit(0, STRICT),
            rows(), begin(), put(0, "{a:3}"),
        ]
        expected = answered_behind(self.FULL, *calls)
        self.assertEqual(answered_behind(self.FULL, schema("{1a!i8"), *calls), [[-1]] + expected)
        self.assertEqual(expected[11:], [[3], [3, 0, 1, 2], [0], [3]])

    def test_sixty_commits_may_come_anew(self):
        start = START + [commit(0, STRICT)] + [begin(), commit(0, STRICT)] * 59 + [begin()]
        found = answered_behind(start, commit(0, STRICT), schema("{1a!i8}"), begin(), commit(0, STRICT))
        self.assertEqual(found, [[-7], [0], [0], [1]])


class Look(unittest.TestCase):
    def test_the_rows_text(self):
        found = run(schema(EXAMPLE_SCHEMA), begin(), put(0, EXAMPLE_ROW), look(0, 0))
        self.assertEqual(found[3], seen(EXAMPLE_ROW))
        self.assertEqual(found[3][0], 89)

    def test_no_such_row(self):
        rows = [0, 1, -1, LEAST, GREATEST]
        self.assertEqual(answered(*[look(0, row) for row in rows]), [[0]] * 5)
        self.assertEqual(answered(put(0, "{a:1}"), look(0, -1), look(0, 1), look(0, 0)), [[0], [0], [0], seen("{a:1}")])

    def test_the_longest_answer(self):
        text = "{a:" + ",".join("7" * 1998) + "}"
        self.assertEqual(len(text), 3999)
        text = text.replace("{a:7,", "{a:-7,")
        found = run(schema("{1a*i8}"), begin(), put(0, text), look(0, 0))
        self.assertEqual(len(found[3]), 4001)
        self.assertEqual(found[3], seen(text))

    def test_the_shortest_row(self):
        self.assertEqual(run(schema("{1a?b}"), begin(), put(0, "{}"), look(0, 0))[2:], [[0], [2, 123, 125]])


class Replace(unittest.TestCase):
    def test_there_or_not(self):
        found = answered(
            replace(0, 0, "{a:1}"), put(0, "{a:1}"), replace(0, 0, "{a:2}"), look(0, 0), replace(0, 0, "{a:2}"),
            replace(0, 1, "{a:3}"), replace(0, -1, "{a:3}"), replace(0, LEAST, "{a:3}"), replace(0, GREATEST, "{a:3}"),
            look(0, 0), ask(0, "T"),
        )
        self.assertEqual(
            found, [[0], [0], [1], seen("{a:2}"), [1], [0], [0], [0], [0], seen("{a:2}"), [1, 0]]
        )

    def test_only_that_row(self):
        found = answered(put(0, "{a:1}"), put(0, "{a:2}"), put(0, "{a:3}"), replace(0, 1, "{a:9}"), look(0, 0), look(0, 1), look(0, 2))
        self.assertEqual(found[3:], [[1], seen("{a:1}"), seen("{a:9}"), seen("{a:3}")])

    def test_no_rows_text(self):
        found = answered(put(0, "{a:1}"), replace(0, 0, "{a:128}"), replace(0, 5, ""), replace(0, 0, "x"), look(0, 0), undo(0, 3), undo(0, 2))
        self.assertEqual(found, [[0], [-1], [-1], [-1], seen("{a:1}"), [-4], [2]])

    def test_puts_no_number_out(self):
        self.assertEqual(answered(put(0, "{a:1}"), replace(0, 0, "{a:2}"), replace(0, 1, "{a:2}"), put(0, "{a:3}"))[3], [1])


class Drop(unittest.TestCase):
    def test_there_or_not(self):
        found = answered(
            drop(0, 0), put(0, "{a:1}"), put(0, "{a:2}"), drop(0, 0), look(0, 0), drop(0, 0), look(0, 1), ask(0, "T"),
            drop(0, -1), drop(0, LEAST), drop(0, GREATEST), replace(0, 0, "{a:5}"), look(0, 0), put(0, "{a:3}"), ask(0, "T"),
        )
        self.assertEqual(
            found,
            [[0], [0], [1], [1], [0], [0], seen("{a:2}"), [1, 1], [0], [0], [0], [0], [0], [2], [2, 1, 2]],
        )


class FortyDeeds(unittest.TestCase):
    def test_the_fortieth_is_the_last(self):
        for deed in each_deed(0):
            with self.subTest(deed=deed):
                found = answered(*[deed for number in range(42)])
                self.assertNotIn([-6], found[:40])
                self.assertEqual(found[40:], [[-6], [-6]])

    def test_each_deed_is_refused_then(self):
        forty = [put(0, "{a:1}")] + [look(0, 0) for number in range(39)]
        found = answered(*forty, *each_deed(0), undo(0, 41), undo(0, 40))
        self.assertEqual(found[40:], [[-6]] * 5 + [[-4], [40]])

    def test_a_refused_deed_does_nothing(self):
        forty = [put(0, "{a:1}")] + [look(0, 0) for number in range(39)]
        found = answered(
            *forty, put(0, "{a:1}"), drop(0, 0), replace(0, 0, "{a:7}"), begin(), put(1, "{a:2}"), undo(0, 39), look(0, 0)
        )
        self.assertEqual(found[40:], [[-6], [-6], [-6], [1], [1], [39], seen("{a:1}")])

    def test_deeds_with_the_reply_no_count(self):
        found = answered(*[drop(0, 7) for number in range(20)], *[replace(0, 7, "{a:1}") for number in range(20)], look(0, 7))
        self.assertEqual(found, [[0]] * 40 + [[-6]])

    def test_refused_calls_do_not_count(self):
        refused = [put(0, "x"), ask(0, "x"), replace(0, 0, "x")]
        found = answered(*[look(0, 0) for number in range(39)], *refused, look(0, 0), look(0, 0))
        self.assertEqual(found[39:], [[-1], [-1], [-1], [0], [-6]])

    def test_each_session_for_itself(self):
        found = answered(begin(), *[look(0, 0) for number in range(41)], look(1, 0), undo(1, 1))
        self.assertEqual(found[-3:], [[-6], [0], [1]])

    def test_undone_ones_may_be_done_again(self):
        found = answered(*[look(0, 0) for number in range(40)], undo(0, 38), look(0, 0), look(0, 0), look(0, 0))
        self.assertEqual(found[40:], [[38], [0], [0], [-6]])


class Undo(unittest.TestCase):
    def test_range(self):
        found = answered(undo(0, 0), undo(0, 1), undo(0, -1), put(0, "{a:1}"), look(0, 0), undo(0, 3), undo(0, LEAST), undo(0, GREATEST), undo(0, 2))
        self.assertEqual(found, [[0], [-4], [-4], [0], seen("{a:1}"), [-4], [-4], [-4], [2]])

    def test_each_kind_of_deed(self):
        found = answered(
            put(0, "{a:1}"), replace(0, 0, "{a:2}"), put(0, "{a:3}"), drop(0, 0), ask(0, "T"),
            undo(0, 3), ask(0, "T"), look(0, 0), undo(0, 3), undo(0, 2), ask(0, "T"), look(0, 0), undo(0, 1), look(0, 0),
            undo(0, 0), look(0, 0), ask(0, "T"),
        )
        self.assertEqual(
            found[4:],
            [[1, 1], [3], [2, 0, 1], seen("{a:2}"), [3], [2], [1, 0], seen("{a:2}"), [1], seen("{a:1}"), [0], [0], [0]],
        )

    def test_all_kept(self):
        found = answered(put(0, "{a:1}"), drop(0, 0), undo(0, 2), look(0, 0), undo(0, 1), look(0, 0))
        self.assertEqual(found, [[0], [1], [2], [0], [1], seen("{a:1}")])

    def test_undone_deeds_do_not_come_back(self):
        found = answered(put(0, "{a:1}"), put(0, "{a:2}"), undo(0, 1), undo(0, 2), look(0, 1), undo(0, 2), undo(0, 3))
        self.assertEqual(found, [[0], [1], [1], [-4], [0], [2], [-4]])

    def test_a_refused_one_leaves_all_as_it_was(self):
        found = answered(put(0, "{a:1}"), undo(0, 2), undo(0, -1), undo(1, 0), look(0, 0))
        self.assertEqual(found, [[0], [-4], [-4], [-3], seen("{a:1}")])

    def test_one_session_alone(self):
        found = answered(begin(), put(0, "{a:1}"), put(1, "{a:2}"), undo(0, 0), look(1, 1), look(0, 0))
        self.assertEqual(found, [[1], [0], [1], [0], seen("{a:2}"), [0]])

    def test_is_no_deed(self):
        found = answered(*[undo(0, 0) for number in range(60)], look(0, 0), undo(0, 1))
        self.assertEqual(found[-2:], [[0], [1]])


class OrderOfRefusals(unittest.TestCase):
    def test_no_session_before_the_form(self):
        calls = [put(3, "x"), ask(3, "x"), replace(3, 0, "x"), put(-1, ""), ask(8, "")]
        self.assertEqual(answered(*calls), [[-3]] * 5)

    def test_no_session_before_the_range(self):
        self.assertEqual(answered(undo(3, -1), undo(3, 99), undo(-1, 0)), [[-3]] * 3)

    def test_the_form_before_forty_deeds(self):
        forty = [look(0, 0) for number in range(40)]
        calls = [put(0, "x"), ask(0, "x"), replace(0, 0, "x"), put(0, "{a:1}"), ask(0, "T"), replace(0, 0, "{a:1}")]
        self.assertEqual(answered(*forty, *calls)[40:], [[-1], [-1], [-1], [-6], [-6], [-6]])

    def test_no_session_before_forty_deeds(self):
        forty = [look(0, 0) for number in range(40)]
        self.assertEqual(answered(*forty, look(1, 0), put(1, "x"))[40:], [[-3], [-3]])


if __name__ == "__main__":
    unittest.main()
