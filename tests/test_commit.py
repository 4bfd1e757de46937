"""Point 12: sessions taken strictly or loosely, what a commit leaves, and which refusal comes first."""

import unittest

from tests.helper import (
    GREATEST, LEAST, LOOSE, STRICT, again, answered_behind, ask, begin, by_another, close, commit, drop, look, put, replace,
    row, rows, run, schema, seen, table_with, then, undo, why,
)

EMPTY = [schema("{1a!i8}")]
THREE = table_with("{a:1}", "{a:5}", "{a:7}")
MODES = [LOOSE, STRICT]


def behind(deeds, others, *calls):
    return answered_behind(THREE + [begin()] + deeds + others, *calls)


def left_by(deeds, others, mode):
    """What the commit of session 0 answers, and each committed row's text behind it by its number."""
    first = THREE + [begin()] + deeds + others
    found = answered_behind(first, commit(0, mode), rows())
    numbers = found[1][1:]
    texts = answered_behind(first, commit(0, mode), *[row(number) for number in numbers])[1:]
    return found[0], {number: bytes(text[1:]).decode() for number, text in zip(numbers, texts)}


class TheDocumentsExample(unittest.TestCase):
    def start(self, text):
        return table_with("{a:1}", "{a:5}") + [
            begin(), begin(), ask(0, "(a>3)"), replace(0, 0, text), ask(1, "(a<3)"), replace(1, 1, "{a:2}"),
        ]

    def test_in_full(self):
        self.assertEqual(
            run(*self.start("{a:2}"), commit(0, STRICT), commit(1, STRICT)),
            [[0], [0], [0], [1], [1], [0], [1], [1, 1], [1], [1, 0], [1], [2], [3]],
        )

    def test_taken_strictly(self):
        found = answered_behind(self.start("{a:2}"), commit(0, STRICT), why(1), commit(1, STRICT), rows(), row(0), row(1))
        self.assertEqual(found, [[2], [1, 1, 2], [3], [2, 0, 1], seen("{a:2}"), seen("{a:2}")])

    def test_refused_strictly_and_taken_loosely(self):
        found = answered_behind(
            self.start("{a:9}"), commit(0, STRICT), why(1), commit(1, STRICT), commit(1, LOOSE), rows(), row(0), row(1)
        )
        self.assertEqual(found, [[2], [0, 1, 0], [-10], [3], [2, 0, 1], seen("{a:9}"), seen("{a:2}")])


class Strict(unittest.TestCase):
    def test_leaves_what_the_deeds_make_of_the_committed_rows(self):
        deeds = [look(0, 0), replace(0, 1, "{a:6}"), put(0, "{a:2}"), put(0, "{a:3}"), drop(0, 3)]
        others = by_another(replace(1, 2, "{a:8}"), put(1, "{a:4}"))
        self.assertEqual(left_by(deeds, others, STRICT), ([3], {0: "{a:1}", 1: "{a:6}", 2: "{a:8}", 4: "{a:3}", 5: "{a:4}"}))

    def test_over_what_others_wrote(self):
        others = by_another(replace(1, 0, "{a:9}"))
        self.assertEqual(left_by([replace(0, 0, "{a:2}")], others, STRICT), ([3], {0: "{a:2}", 1: "{a:5}", 2: "{a:7}"}))
        self.assertEqual(left_by([drop(0, 0)], others, STRICT), ([3], {1: "{a:5}", 2: "{a:7}"}))

    def test_refused_for_any_unlike_reply(self):
        alike = [look(0, 1), put(0, "{a:2}"), ask(0, "(a=5)"), drop(0, 9)]
        others = by_another(drop(1, 0))
        for unlike in [look(0, 0), ask(0, "T"), replace(0, 0, "{a:2}"), drop(0, 0)]:
            for place in range(5):
                with self.subTest(unlike=unlike, place=place):
                    deeds = alike[:place] + [unlike] + alike[place:]
                    self.assertEqual(behind(deeds, others, commit(0, STRICT)), [[-10]])
        self.assertEqual(behind(alike, others, commit(0, STRICT)), [[3]])


class Loose(unittest.TestCase):
    def test_leaves_the_written_rows_as_the_view_has_them(self):
        deeds = [ask(0, "T"), look(0, 2), replace(0, 1, "{a:6}"), put(0, "{a:2}"), put(0, "{a:3}"), drop(0, 3)]
        others = by_another(replace(1, 2, "{a:8}"), put(1, "{a:4}"), drop(1, 0))
        self.assertEqual(left_by(deeds, others, LOOSE), ([3], {1: "{a:6}", 2: "{a:8}", 4: "{a:3}", 5: "{a:4}"}))

    def test_not_written_is_not_left(self):
        deeds = [look(0, 0), drop(0, 3), replace(0, 4, "{a:6}")]
        others = by_another(replace(1, 0, "{a:2}"), put(1, "{a:3}"), put(1, "{a:4}"))
        self.assertEqual(
            left_by(deeds, others, LOOSE), ([3], {0: "{a:2}", 1: "{a:5}", 2: "{a:7}", 3: "{a:3}", 4: "{a:4}"})
        )

    def test_refused_for_any_written_row(self):
        deeds = [replace(0, 0, "{a:2}"), drop(0, 1), put(0, "{a:3}"), replace(0, 2, "{a:2}")]
        for number in range(3):
            for other in [replace(1, number, "{a:9}"), replace(1, number, "{a:2}"), drop(1, number)]:
                with self.subTest(other=other):
                    self.assertEqual(behind(deeds, by_another(other), commit(0, LOOSE)), [[-10]])
        self.assertEqual(behind(deeds, by_another(put(1, "{a:9}")), commit(0, LOOSE)), [[3]])

    def test_the_written_row_may_have_been_changed_back(self):
        others = by_another(replace(1, 0, "{a:9}")) + by_another(replace(1, 0, "{a:1}"))
        self.assertEqual(left_by([replace(0, 0, "{a:2}")], others, LOOSE), ([4], {0: "{a:2}", 1: "{a:5}", 2: "{a:7}"}))

    def test_a_dropped_row_does_not_come_back(self):
        others = by_another(drop(1, 0))
        self.assertEqual(behind([drop(0, 0)], others, commit(0, LOOSE), commit(0, STRICT)), [[-10], [-10]])


class Rows(unittest.TestCase):
    def each_mode(self, deeds, others, answer, texts):
        for mode in MODES:
            with self.subTest(mode=mode):
                self.assertEqual(left_by(deeds, others, mode), (answer, texts))

    def test_put_and_dropped_again(self):
        deeds = [put(0, "{a:2}"), drop(0, 3)]
        self.each_mode(deeds, [], [2], {0: "{a:1}", 1: "{a:5}", 2: "{a:7}"})
        self.each_mode(deeds, by_another(put(1, "{a:3}")), [3], {0: "{a:1}", 1: "{a:5}", 2: "{a:7}", 4: "{a:3}"})

    def test_put_and_replaced(self):
        self.each_mode([put(0, "{a:2}"), replace(0, 3, "{a:4}")], [], [2], {0: "{a:1}", 1: "{a:5}", 2: "{a:7}", 3: "{a:4}"})

    def test_replaced_twice(self):
        deeds = [replace(0, 0, "{a:2}"), replace(0, 0, "{a:3}")]
        self.each_mode(deeds, by_another(drop(1, 1)), [3], {0: "{a:3}", 2: "{a:7}"})

    def test_replaced_and_back(self):
        deeds = [replace(0, 0, "{a:2}"), replace(0, 0, "{a:1}")]
        self.each_mode(deeds, [], [2], {0: "{a:1}", 1: "{a:5}", 2: "{a:7}"})
        others = by_another(replace(1, 0, "{a:9}"))
        self.assertEqual(behind(deeds, others, commit(0, LOOSE), commit(0, STRICT), row(0)), [[-10], [3], seen("{a:1}")])

    def test_replaced_and_dropped(self):
        self.each_mode([replace(0, 0, "{a:2}"), drop(0, 0)], by_another(put(1, "{a:3}")), [3], {1: "{a:5}", 2: "{a:7}", 3: "{a:3}"})

    def test_dropped_and_another_one_dropped_meanwhile(self):
        self.each_mode([drop(0, 0)], by_another(drop(1, 1)), [3], {2: "{a:7}"})

    def test_dropped_and_another_one_replaced_meanwhile(self):
        self.each_mode([drop(0, 0)], by_another(replace(1, 1, "{a:6}")), [3], {1: "{a:6}", 2: "{a:7}"})

    def test_dropped_and_itself_replaced_meanwhile_to_the_same_text(self):
        self.each_mode([drop(0, 0)], by_another(replace(1, 0, "{a:1}")), [3], {1: "{a:5}", 2: "{a:7}"})
        self.each_mode([drop(0, 0)], by_another(replace(1, 1, "{a:5}")), [3], {1: "{a:5}", 2: "{a:7}"})

    def test_dropped_and_itself_replaced_meanwhile(self):
        others = by_another(replace(1, 0, "{a:9}"))
        self.assertEqual(behind([drop(0, 0)], others, commit(0, LOOSE), commit(0, STRICT), rows()), [[-10], [3], [2, 1, 2]])

    def test_both_replaced_to_the_same_text(self):
        others = by_another(replace(1, 0, "{a:2}"))
        deeds = [replace(0, 0, "{a:2}")]
        self.assertEqual(behind(deeds, others, commit(0, LOOSE), commit(0, STRICT), row(0)), [[-10], [3], seen("{a:2}")])

    def test_replaced_by_the_text_it_had(self):
        self.each_mode([replace(0, 0, "{a:1}")], by_another(drop(1, 2)), [3], {0: "{a:1}", 1: "{a:5}"})

    def test_all_rows_dropped(self):
        self.each_mode([drop(0, 0), drop(0, 1), drop(0, 2)], [], [2], {})

    def test_undone_deeds_leave_nothing(self):
        deeds = [replace(0, 0, "{a:2}"), drop(0, 1), put(0, "{a:3}"), undo(0, 1)]
        self.each_mode(deeds, by_another(drop(1, 1)), [3], {0: "{a:2}", 2: "{a:7}"})

    def test_row_zero_by_the_first_commit(self):
        for mode in MODES:
            with self.subTest(mode=mode):
                found = answered_behind(EMPTY + [begin(), put(0, "{a:1}")], commit(0, mode), rows(), row(0))
                self.assertEqual(found, [[1], [1, 0], seen("{a:1}")])


class NothingWritten(unittest.TestCase):
    def test_no_deeds(self):
        for mode in MODES:
            with self.subTest(mode=mode):
                self.assertEqual(answered_behind(EMPTY + [begin()], commit(0, mode), rows(), then(1), then(2)), [[1], [0], [0], [-4]])
                self.assertEqual(behind([], by_another(drop(1, 0)), commit(0, mode), rows()), [[3], [2, 1, 2]])

    def test_reading_alone(self):
        for mode in MODES:
            with self.subTest(mode=mode):
                found = behind([look(0, 0), ask(0, "T"), drop(0, 9)], [], commit(0, mode), rows(), then(2))
                self.assertEqual(found, [[2], [3, 0, 1, 2], [3, 0, 1, 2]])

    def test_reading_alone_but_another_thing_now(self):
        self.assertEqual(behind([look(0, 0)], by_another(drop(1, 0)), commit(0, STRICT), commit(0, LOOSE)), [[-10], [3]])


class SessionsAround(unittest.TestCase):
    def test_the_session_is_closed(self):
        for mode in MODES:
            with self.subTest(mode=mode):
                found = behind([put(0, "{a:2}")], [], commit(0, mode), commit(0, mode), look(0, 0), why(0), close(0))
                self.assertEqual(found, [[2], [-3], [-3], [-3], [-3]])

    def test_its_number_is_free(self):
        start = THREE + [begin() for count in range(8)]
        found = answered_behind(start, begin(), commit(5, STRICT), commit(2, LOOSE), begin(), begin(), begin(), undo(2, 1), undo(2, 0))
        self.assertEqual(found, [[-5], [2], [3], [2], [5], [-5], [-4], [0]])

    def test_a_new_one_sees_what_was_committed(self):
        start = THREE + [begin(), replace(0, 0, "{a:2}"), put(0, "{a:3}"), drop(0, 1), commit(0, LOOSE), begin()]
        found = answered_behind(start, look(0, 0), look(0, 1), look(0, 3), ask(0, "T"), why(0))
        self.assertEqual(found, [seen("{a:2}"), [0], seen("{a:3}"), [3, 0, 2, 3], [1, 1, 4]])

    def test_open_ones_see_nothing_of_it(self):
        start = THREE + [begin(), begin(), replace(1, 0, "{a:2}"), put(1, "{a:3}"), drop(1, 1)]
        calls = [look(0, 0), look(0, 1), look(0, 3), ask(0, "T")]
        found = answered_behind(start + [commit(1, LOOSE)], *calls)
        self.assertEqual(found, [seen("{a:1}"), seen("{a:5}"), [0], [3, 0, 1, 2]])
        self.assertEqual(found, answered_behind(start, *calls))

    def test_row_numbers_go_on(self):
        start = THREE + [begin(), begin(), put(0, "{a:2}"), put(1, "{a:3}"), commit(1, STRICT), begin()]
        self.assertEqual(answered_behind(start, put(1, "{a:4}"), commit(0, STRICT), begin(), put(0, "{a:4}")), [[5], [3], [0], [6]])

    def test_row_numbers_of_dropped_and_undone_rows_are_not_given_again(self):
        start = THREE + [begin(), put(0, "{a:2}"), drop(0, 3), put(0, "{a:3}"), undo(0, 2), commit(0, STRICT), begin()]
        self.assertEqual(answered_behind(start, put(0, "{a:4}"), drop(0, 0), commit(0, LOOSE), begin(), put(0, "{a:4}")), [[5], [1], [3], [0], [6]])

    def test_one_after_another_as_if_each_were_alone(self):
        calls = [begin() for count in range(8)]
        for session in range(8):
            calls = calls + [ask(session, "(a>50)"), put(session, "{a:" + str(session) + "}")]
        found = answered_behind(EMPTY + calls, *[commit(session, STRICT) for session in range(8)], rows())
        self.assertEqual(found, [[number] for number in range(1, 9)] + [[8] + list(range(8))])

    def test_only_one_of_those_that_saw_no_other(self):
        calls = [begin() for count in range(8)]
        for session in range(8):
            calls = calls + [ask(session, "T"), put(session, "{a:1}")]
        found = answered_behind(EMPTY + calls, *[commit(session, STRICT) for session in range(8)], rows())
        self.assertEqual(found, [[1]] + [[-10]] * 7 + [[1, 0]])


class Modes(unittest.TestCase):
    def test_none_other(self):
        for mode in [2, -1, 10, LEAST, GREATEST]:
            with self.subTest(mode=mode):
                self.assertEqual(behind([put(0, "{a:2}")], [], commit(0, mode), rows(), commit(0, STRICT)), [[-4], [3, 0, 1, 2], [2]])


class OrderOfRefusals(unittest.TestCase):
    def test_no_session_first(self):
        for session in [0, 1, 8, -1, LEAST, GREATEST]:
            for mode in [0, 1, 2, -1]:
                with self.subTest(session=session, mode=mode):
                    self.assertEqual(answered_behind(THREE, commit(session, mode), rows()), [[-3], [3, 0, 1, 2]])

    def test_no_schema_before_all(self):
        self.assertEqual(run(commit(0, 0), commit(0, 1), commit(-1, 5)), [[-2], [-2], [-2]])

    def test_the_mode_before_not_takable(self):
        deeds = [look(0, 0), drop(0, 0)]
        found = behind(deeds, by_another(drop(1, 0)), commit(0, 2), commit(0, -1), commit(0, 0), commit(0, 1))
        self.assertEqual(found, [[-4], [-4], [-10], [-10]])

    def test_the_mode_before_too_many(self):
        start = EMPTY + [begin(), commit(0, STRICT)] * 60 + [begin()]
        self.assertEqual(answered_behind(start, commit(0, 2), commit(0, 0), commit(0, 1)), [[-4], [-7], [-7]])

    def test_not_takable_before_too_many_commits(self):
        start = table_with("{a:1}") + [begin(), look(0, 0), drop(0, 0), begin(), replace(1, 0, "{a:2}"), commit(1, STRICT)]
        start = start + [begin(), commit(1, LOOSE)] * 58
        found = answered_behind(start, then(60), then(61), commit(0, STRICT), commit(0, LOOSE), undo(0, 0), commit(0, STRICT))
        self.assertEqual(found, [[1, 0], [-4], [-10], [-10], [0], [-7]])

    def test_not_takable_before_too_many_rows(self):
        deeds = [look(0, 0), replace(0, 0, "{a:9}")] + [put(0, "{a:2}") for count in range(38)]
        others = [begin(), replace(1, 0, "{a:3}")] + [put(1, "{a:2}") for count in range(22)] + [commit(1, STRICT)]
        start = table_with("{a:1}") + [begin()] + deeds + others
        found = answered_behind(start, commit(0, STRICT), commit(0, LOOSE), again(0), commit(0, STRICT), commit(0, LOOSE))
        self.assertEqual(found, [[-10], [-10], [1], [-7], [-7]])


def with_rows(count):
    """A table with so many rows, 40 or more, behind two commits."""
    first = [begin()] + [put(0, "{a:1}") for number in range(40)] + [commit(0, STRICT)]
    return EMPTY + first + [begin()] + [put(0, "{a:1}") for number in range(count - 40)] + [commit(0, STRICT)]


class SixtyRows(unittest.TestCase):
    def test_sixty_and_one_more(self):
        for mode in MODES:
            with self.subTest(mode=mode):
                start = with_rows(59) + [begin(), put(0, "{a:2}"), put(0, "{a:3}")]
                found = answered_behind(start, commit(0, mode), rows(), undo(0, 1), commit(0, mode), rows())
                self.assertEqual(found, [[-7], [59] + list(range(59)), [1], [3], [60] + list(range(60))])

    def test_none_more_behind_sixty(self):
        for mode in MODES:
            with self.subTest(mode=mode):
                found = answered_behind(with_rows(60), begin(), put(0, "{a:2}"), commit(0, mode), drop(0, 7), commit(0, mode), rows())
                left = [number for number in range(61) if number != 7]
                self.assertEqual(found, [[0], [60], [-7], [1], [3], [60] + left])

    def test_others_rows_count(self):
        for mode in MODES:
            with self.subTest(mode=mode):
                start = with_rows(58) + [begin(), begin(), begin(), put(0, "{a:2}"), put(1, "{a:3}"), put(2, "{a:4}")]
                found = answered_behind(start, commit(0, mode), commit(1, mode), commit(2, mode), rows(), why(2), drop(2, 0), commit(2, mode))
                self.assertEqual(found, [[3], [4], [-7], [60] + list(range(60)), [1, 1, 1], [1], [5]])

    def test_a_view_may_have_more(self):
        start = with_rows(60) + [begin()] + [put(0, "{a:2}") for count in range(40)]
        self.assertEqual(answered_behind(start, why(0), commit(0, LOOSE), commit(0, STRICT), undo(0, 0), commit(0, STRICT)), [[1, 1, 40], [-7], [-7], [0], [3]])

    def test_rows_that_were_put_and_dropped_count_not(self):
        start = with_rows(60) + [begin(), put(0, "{a:2}"), drop(0, 60)]
        self.assertEqual(answered_behind(start, commit(0, LOOSE)), [[3]])
        self.assertEqual(answered_behind(start, commit(0, STRICT)), [[3]])


class SixtyCommits(unittest.TestCase):
    def test_the_sixtieth_is_the_last(self):
        for mode in MODES:
            with self.subTest(mode=mode):
                found = answered_behind(EMPTY, *([begin(), commit(0, mode)] * 62))
                self.assertEqual(found[1:120:2], [[count] for count in range(1, 61)])
                self.assertEqual(found[120:], [[0], [-7], [1], [-7]])

    def test_rows_do_not_matter(self):
        start = table_with("{a:1}") + [begin(), commit(0, STRICT)] * 59 + [begin(), drop(0, 0)]
        found = answered_behind(start, commit(0, STRICT), commit(0, LOOSE), rows(), why(0), look(0, 0), close(0))
        self.assertEqual(found, [[-7], [-7], [1, 0], [1, 1, 1], [0], [0]])

    def test_refused_ones_count_not(self):
        start = EMPTY + [begin(), commit(0, STRICT)] * 59 + [begin()]
        found = answered_behind(start, commit(0, 2), commit(1, 0), commit(0, -1), commit(0, 1), begin(), commit(0, 0))
        self.assertEqual(found, [[-4], [-3], [-4], [60], [0], [-7]])

    def test_all_else_goes_on(self):
        start = EMPTY + [begin(), commit(0, STRICT)] * 60 + [begin()]
        found = answered_behind(start, put(0, "{a:1}"), look(0, 0), undo(0, 0), again(0), close(0), then(60), begin(), schema("{1a!i8}"), begin(), commit(0, 1))
        self.assertEqual(found, [[0], seen("{a:1}"), [0], [0], [0], [0], [0], [0], [0], [1]])


class AfterARefusal(unittest.TestCase):
    def test_not_takable(self):
        deeds = [look(0, 0), replace(0, 0, "{a:2}"), put(0, "{a:3}")]
        start = THREE + [begin()] + deeds + by_another(replace(1, 0, "{a:9}"))
        calls = [why(0), look(0, 0), look(0, 3), undo(0, 6), undo(0, 5), ask(0, "T"), rows(), row(0), then(2), then(3), put(0, "{a:4}"), again(0)]
        expected = answered_behind(start, *calls)
        self.assertEqual(expected[:4], [[0, 0, 0], seen("{a:2}"), seen("{a:3}"), [-4]])
        for mode in MODES:
            with self.subTest(mode=mode):
                self.assertEqual(answered_behind(start, commit(0, mode), *calls), [[-10]] + expected)

    def test_too_many_rows(self):
        start = with_rows(60) + [begin(), look(0, 0), replace(0, 0, "{a:2}"), put(0, "{a:3}")]
        calls = [why(0), look(0, 0), look(0, 60), undo(0, 6), undo(0, 5), ask(0, "(a>1)"), rows(), row(0), then(2), then(3), put(0, "{a:4}"), again(0)]
        expected = answered_behind(start, *calls)
        self.assertEqual(expected[:4], [[1, 1, 3], seen("{a:2}"), seen("{a:3}"), [-4]])
        for mode in MODES:
            with self.subTest(mode=mode):
                self.assertEqual(answered_behind(start, commit(0, mode), *calls), [[-7]] + expected)


if __name__ == "__main__":
    unittest.main()
