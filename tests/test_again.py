"""Point 11, and point 9 behind it: a session's deeds done once more to the committed rows."""

import unittest

from tests.helper import (
    LOOSE, STRICT, again, answered_behind, ask, begin, by_another, commit, drop, look, put, replace, row, rows, run, schema, seen,
    table_with, undo, why,
)

THREE = table_with("{a:1}", "{a:5}", "{a:7}")


def behind(deeds, others, *calls):
    return answered_behind(THREE + [begin()] + deeds + others, *calls)


class HowMany(unittest.TestCase):
    def count(self, deeds, *others):
        found = behind(deeds, by_another(*others), again(0), again(0), why(0))
        self.assertEqual(found[1:], [[0], [1, 1, len(deeds)]])
        return found[0][0]

    def test_none(self):
        self.assertEqual(self.count([]), 0)
        self.assertEqual(self.count([], drop(1, 0)), 0)
        self.assertEqual(self.count([look(0, 0), ask(0, "T"), put(0, "{a:2}"), drop(0, 1), replace(0, 2, "{a:3}")]), 0)
        self.assertEqual(self.count([look(0, 0), replace(0, 0, "{a:2}")], replace(1, 1, "{a:9}"), put(1, "{a:4}")), 0)

    def test_some(self):
        deeds = [look(0, 0), look(0, 1), ask(0, "(a<6)"), put(0, "{a:2}"), look(0, 2)]
        self.assertEqual(self.count(deeds, replace(1, 0, "{a:2}")), 1)
        self.assertEqual(self.count(deeds, drop(1, 0)), 2)
        self.assertEqual(self.count(deeds, drop(1, 0), drop(1, 2)), 3)
        self.assertEqual(self.count(deeds, replace(1, 2, "{a:5}"), replace(1, 0, "{a:6}"), drop(1, 1)), 4)

    def test_all(self):
        deeds = [look(0, 0), drop(0, 0), replace(0, 1, "{a:2}"), ask(0, "T"), look(0, 3), drop(0, 3), replace(0, 4, "{a:2}")]
        self.assertEqual(self.count(deeds, drop(1, 0), drop(1, 1), put(1, "{a:8}"), put(1, "{a:9}")), 7)
        self.assertEqual(self.count([look(0, 0) for count in range(40)], drop(1, 0)), 40)

    def test_each_kind(self):
        self.assertEqual(self.count([look(0, 0)], replace(1, 0, "{a:2}")), 1)
        self.assertEqual(self.count([ask(0, "(a=1)")], replace(1, 0, "{a:2}")), 1)
        self.assertEqual(self.count([replace(0, 0, "{a:4}")], drop(1, 0)), 1)
        self.assertEqual(self.count([drop(0, 0)], drop(1, 0)), 1)
        self.assertEqual(self.count([replace(0, 0, "{a:4}")], replace(1, 0, "{a:2}")), 0)
        self.assertEqual(self.count([drop(0, 0)], replace(1, 0, "{a:2}")), 0)
        self.assertEqual(self.count([put(0, "{a:4}")], drop(1, 0)), 0)

    def test_counted_against_the_replies_before(self):
        change = by_another(replace(1, 0, "{a:2}"))
        back = by_another(replace(1, 0, "{a:1}"))
        self.assertEqual(behind([look(0, 0)], change + [again(0)] + back, again(0), again(0)), [[1], [0]])
        self.assertEqual(behind([look(0, 0)], change + back, again(0)), [[0]])


class TheNewOnesCount(unittest.TestCase):
    def test_the_view(self):
        others = by_another(replace(1, 0, "{a:2}"), drop(1, 2), put(1, "{a:3}"))
        deeds = [replace(0, 1, "{a:6}"), put(0, "{a:4}")]
        calls = [look(0, 0), look(0, 1), look(0, 2), look(0, 3), look(0, 4), ask(0, "T")]
        self.assertEqual(
            behind(deeds, others, *calls),
            [seen("{a:1}"), seen("{a:6}"), seen("{a:7}"), seen("{a:4}"), [0], [4, 0, 1, 2, 3]],
        )
        self.assertEqual(
            behind(deeds, others + [again(0)], *calls),
            [seen("{a:2}"), seen("{a:6}"), [0], seen("{a:4}"), seen("{a:3}"), [4, 0, 1, 3, 4]],
        )

    def test_the_view_of_a_session_without_deeds(self):
        others = by_another(replace(1, 0, "{a:2}"))
        self.assertEqual(behind([], others, look(0, 0), undo(0, 0), again(0), look(0, 0)), [seen("{a:1}"), [0], [0], seen("{a:2}")])

    def test_the_replies(self):
        others = by_another(replace(1, 0, "{a:2}"))
        self.assertEqual(behind([look(0, 0), look(0, 1)], others, why(0), again(0), why(0)), [[0, 1, 0], [1], [1, 1, 2]])
        later = by_another(replace(1, 1, "{a:2}"))
        self.assertEqual(behind([look(0, 0), look(0, 1)], others + [again(0)] + later, why(0)), [[0, 1, 1]])

    def test_the_base_of_a_loose_commit(self):
        others = by_another(replace(1, 0, "{a:9}"))
        deeds = [replace(0, 0, "{a:2}")]
        self.assertEqual(behind(deeds, others, commit(0, LOOSE)), [[-10]])
        self.assertEqual(
            behind(deeds, others, again(0), why(0), commit(0, LOOSE), row(0)), [[0], [1, 1, 1], [3], seen("{a:2}")]
        )

    def test_the_new_base_is_looked_at_not_the_old_one(self):
        change = by_another(replace(1, 0, "{a:9}"))
        back = by_another(replace(1, 0, "{a:1}"))
        found = behind([replace(0, 0, "{a:2}")], change + [again(0)] + back, why(0), commit(0, LOOSE), commit(0, STRICT), row(0))
        self.assertEqual(found, [[1, 0, 1], [-10], [4], seen("{a:2}")])

    def test_a_strict_commit(self):
        others = by_another(drop(1, 0))
        deeds = [ask(0, "T"), put(0, "{a:2}")]
        self.assertEqual(
            behind(deeds, others, commit(0, STRICT), again(0), commit(0, STRICT), rows()), [[-10], [1], [3], [3, 1, 2, 3]]
        )

    def test_rows_written_by_the_new_replies(self):
        others = by_another(put(1, "{a:3}"))
        meddling = by_another(replace(1, 3, "{a:4}"))
        for deed in [drop(0, 3), replace(0, 3, "{a:2}")]:
            with self.subTest(deed=deed):
                self.assertEqual(behind([deed], others + meddling, why(0), commit(0, LOOSE)), [[0, 1, 0], [4]])
                found = behind([deed], others + [again(0)] + meddling, why(0), commit(0, LOOSE), commit(0, STRICT))
                self.assertEqual(found, [[1, 0, 1], [-10], [4]])

    def test_rows_written_by_the_new_replies_are_left_so(self):
        others = by_another(put(1, "{a:3}")) + [again(0)]
        self.assertEqual(behind([drop(0, 3)], others, commit(0, LOOSE), rows()), [[3], [3, 0, 1, 2]])
        self.assertEqual(behind([replace(0, 3, "{a:2}")], others, commit(0, LOOSE), row(3)), [[3], seen("{a:2}")])

    def test_rows_no_more_written_by_the_new_replies(self):
        others = by_another(drop(1, 0))
        for deed in [drop(0, 0), replace(0, 0, "{a:2}")]:
            with self.subTest(deed=deed):
                self.assertEqual(behind([deed], others, commit(0, LOOSE)), [[-10]])
                found = behind([deed], others, again(0), why(0), commit(0, LOOSE), rows())
                self.assertEqual(found, [[1], [1, 1, 1], [3], [2, 1, 2]])

    def test_rows_that_were_put(self):
        others = by_another(put(1, "{a:3}"))
        found = behind([put(0, "{a:2}")], others, again(0), look(0, 3), put(0, "{a:6}"), ask(0, "T"), commit(0, STRICT))
        self.assertEqual(found, [[0], seen("{a:2}"), [5], [6, 0, 1, 2, 3, 4, 5], [3]])


class UndoBehindIt(unittest.TestCase):
    def test_the_first_deeds_and_their_new_replies_stay(self):
        others = by_another(replace(1, 0, "{a:2}"))
        deeds = [look(0, 0), replace(0, 1, "{a:6}"), drop(0, 0), drop(0, 2)]
        found = behind(deeds, others, again(0), undo(0, 2), why(0), look(0, 0), look(0, 1), look(0, 2), undo(0, 0), look(0, 1))
        self.assertEqual(
            found, [[1], [2], [1, 1, 2], seen("{a:2}"), seen("{a:6}"), seen("{a:7}"), [0], seen("{a:5}")]
        )

    def test_back_to_none_is_on_the_new_base(self):
        others = by_another(replace(1, 0, "{a:2}"), drop(1, 1))
        self.assertEqual(
            behind([drop(0, 0)], others, again(0), undo(0, 0), look(0, 0), ask(0, "T")), [[0], [0], seen("{a:2}"), [2, 0, 2]]
        )

    def test_undone_deeds_are_not_done_once_more(self):
        others = by_another(replace(1, 0, "{a:2}"))
        self.assertEqual(
            behind([look(0, 1), drop(0, 0), look(0, 0)], others, undo(0, 1), again(0), look(0, 0), undo(0, 3), undo(0, 2)),
            [[1], [0], seen("{a:2}"), [-4], [2]],
        )

    def test_what_the_undone_ones_wrote_counts_no_more(self):
        first = by_another(replace(1, 0, "{a:2}"))
        later = by_another(replace(1, 0, "{a:3}"))
        calls = [why(0), undo(0, 1), why(0), commit(0, LOOSE)]
        found = behind([replace(0, 1, "{a:6}"), drop(0, 0)], first + [again(0)] + later, *calls)
        self.assertEqual(found, [[1, 0, 2], [1], [1, 1, 1], [4]])


class UndoBehindCommitsOfOthers(unittest.TestCase):
    def test_the_view_is_still_of_the_old_base(self):
        others = by_another(replace(1, 0, "{a:2}"), drop(1, 2))
        deeds = [look(0, 0), replace(0, 1, "{a:6}"), drop(0, 0)]
        found = behind(deeds, others, undo(0, 2), ask(0, "T"), look(0, 0), undo(0, 1), look(0, 1), why(0))
        self.assertEqual(found, [[2], [3, 0, 1, 2], seen("{a:1}"), [1], seen("{a:5}"), [0, 1, 0]])

    def test_the_old_replies_stay(self):
        others = by_another(replace(1, 0, "{a:2}"))
        found = behind([look(0, 0), look(0, 1)], others, undo(0, 1), why(0), again(0), undo(0, 0), why(0), look(0, 0))
        self.assertEqual(found, [[1], [0, 1, 0], [1], [0], [1, 1, 0], seen("{a:2}")])

    def test_the_unlike_ones_undone(self):
        others = by_another(replace(1, 0, "{a:2}"))
        found = behind([look(0, 1), drop(0, 2), look(0, 0)], others, commit(0, STRICT), undo(0, 2), commit(0, STRICT), rows())
        self.assertEqual(found, [[-10], [2], [3], [2, 0, 1]])


class Around(unittest.TestCase):
    def test_is_no_deed(self):
        deeds = [look(0, 0) for count in range(40)]
        self.assertEqual(behind(deeds, [], again(0), look(0, 0), undo(0, 41), undo(0, 40)), [[0], [-6], [-4], [40]])

    def test_changes_no_other_session_and_not_the_table(self):
        start = THREE + [begin(), begin(), begin(), look(1, 0), drop(0, 1), replace(2, 0, "{a:2}"), commit(2, STRICT)]
        found = answered_behind(start, again(0), look(1, 0), why(1), rows(), row(0), again(1))
        self.assertEqual(found, [[0], seen("{a:1}"), [0, 1, 0], [3, 0, 1, 2], seen("{a:2}"), [2]])

    def test_another_session_may_see_the_same_base(self):
        start = THREE + [begin(), drop(0, 0), again(0), begin()]
        self.assertEqual(answered_behind(start, look(1, 0), look(0, 0)), [seen("{a:1}"), [0]])

    def test_gives_no_row_numbers_out(self):
        start = THREE + [begin(), put(0, "{a:2}"), put(0, "{a:3}"), again(0), again(0)]
        self.assertEqual(answered_behind(start, put(0, "{a:4}")), [[5]])

    def test_refused(self):
        found = answered_behind(THREE, again(0), begin(), again(0), again(1), again(-1), again(8))
        self.assertEqual(found, [[-3], [0], [0], [-3], [-3], [-3]])
        self.assertEqual(run(again(0), schema("{"), again(-1)), [[-2], [-1], [-2]])


if __name__ == "__main__":
    unittest.main()
