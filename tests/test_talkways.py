"""[1.6], [1.7], [1.8]: paths, word places, reports and values."""

import random
import unittest

from tests.helper import (
    KNOWN_WORDS, NO_WHOLES, NO_WORDS, UNKNOWN_WORDS, Case, come, nested, random_talk, report,
)
from whosetomorrow.errors import BadSaying, BadTalk, BadValues, NoPath
from whosetomorrow.talks import Plain, Report, Talk
from whosetomorrow.talkways import (
    check_values, names_in, places_in, report_number, report_paths, row_at, rows_of, unknown_parts, with_row,
    with_word, word_at, words_of,
)

INMOST = Plain("go", [("self",), ("then coming", 3), ("place", "oslo")])
INNER = Report(("told",), ("somebody",), ("that day", -1), ("somewhere",), "indirect", [come(), INMOST])
MIDDLE = Report(("I",), ("name", "bob"), ("one day",), ("there",), "own", [come(("I",)), come()])
OUTER = Report(("somebody",), ("name", "ann"), ("today", -2), ("here",), "indirect", [INNER, come(("self",)), MIDDLE])
LAST = Report(("I",), ("you",), ("one day",), ("place", "rome"), "own", [come(("name", "bob"))])
TALK = Talk([come(("name", "cy"), ("I",)), OUTER, come(), LAST])

ROWS = [
    ((0,), TALK.rows[0]), ((1,), OUTER), ((1, 0), INNER), ((1, 0, 0), come()), ((1, 0, 1), INMOST),
    ((1, 1), come(("self",))), ((1, 2), MIDDLE), ((1, 2, 0), come(("I",))), ((1, 2, 1), come()),
    ((2,), come()), ((3,), LAST), ((3, 0), come(("name", "bob"))),
]
WRONG_PATHS = [
    ((), 0), ([], 0), (None, 0), (0, 0), ("0", 0), ({0: 0}, 0), (range(1), 0), ({0}, 0), (iter([0]), 0),
    ((True,), 0), ((False,), 0), ((-1,), 0), ((4,), 0), (("0",), 0), ((None,), 0), ((0.0,), 0), (((0,),), 0),
    ((10 ** 30,), 0), ([[0]], 0), ((0, 0), 1), ((0, 0, 0), 1), ((1, 3), 1), ((1, -1), 1), ((1, True), 1),
    ((1, None, 0), 1), ((1, 0, 2), 2), ((1, 0, False), 2), ((1, 0, 1, 0), 3), ((1, 0, 1, 0, 0), 3), ([1, 1, 0], 2),
    ((4, True), 0), ((2, 0), 1), ((3, 0, 0), 2), ((3, 1), 1), ((3, 0, None), 2),
]


class PathsTest(Case):
    def test_every_path(self):
        for path, row in ROWS:
            self.assertEqual(row_at(TALK, path), row)
            self.assertEqual(row_at(TALK, list(path)), row)

    def test_wrong_paths(self):
        for path, index in WRONG_PATHS:
            self.refused(NoPath(index), row_at, TALK, path)
        for path, index in WRONG_PATHS:
            if not hasattr(path, "__next__"):
                self.refused(NoPath(index), word_at, TALK, path, 0)
                self.refused(NoPath(index), word_at, TALK, path, None)
                self.refused(NoPath(index), with_row, TALK, path, None)
                self.refused(NoPath(index), with_word, TALK, path, 9, None)
                self.refused(NoPath(index), report_number, TALK, path)

    def test_every_word_place(self):
        for path, row in ROWS:
            words = row.parts if isinstance(row, Report) else row.words
            for index, word in enumerate(words):
                self.assertEqual(word_at(TALK, path, index), word)
                self.assertEqual(word_at(TALK, list(path), index), word)
            for index in [-1, len(words), 10 ** 30] + NO_WHOLES:
                self.refused(NoPath(len(path)), word_at, TALK, path, index)
                self.refused(NoPath(len(path)), with_word, TALK, path, index, None)


class WithRowTest(Case):
    def test_another_row_at_each_path(self):
        new = Plain("new", [("name", "dan")])
        for path, old in ROWS:
            for way in (path, list(path)):
                made = with_row(TALK, way, new)
                self.assertEqual(row_at(made, path), new)
                self.assertEqual(with_row(made, way, old), TALK)
            for other, row in ROWS:
                if other[:len(path)] != path and path[:len(other)] != other:
                    self.assertEqual(row_at(made, other), row)

    def test_all_else_stays_and_nothing_is_changed(self):
        before = [(path, row) for path, row in rows_of(TALK)]
        made = with_row(TALK, (1, 0, 1), come())
        self.assertEqual(list(rows_of(TALK)), before)
        changed = [path for path, row in rows_of(made) if dict(before)[path] != row]
        self.assertEqual(changed, [(1,), (1, 0), (1, 0, 1)])
        self.assertEqual(with_row(TALK, (0,), nested(3)).reports, TALK.reports + 3)

    def test_what_is_no_row(self):
        for thing in (None, "come", ("I",), TALK, [come()], 0):
            self.refused(BadTalk((1, 0), "row"), with_row, TALK, [1, 0], thing)
            self.refused(BadTalk((0,), "row"), with_row, TALK, (0,), thing)

    def test_deep_then_reports_then_outside(self):
        bad = come(("there",))
        full = Talk([nested(4)] * 3)
        self.refused(BadSaying("deep"), with_row, TALK, (1, 0, 0), nested(3))
        self.refused(BadSaying("deep"), with_row, TALK, (3, 0), nested(4, "own", bad))
        self.refused(BadSaying("deep"), with_row, full, (0, 0, 0, 0, 0), nested(1))
        self.refused(BadTalk((), "reports"), with_row, Talk([nested(3)] * 4), (0, 0, 0, 0), nested(1, "own", bad))
        self.refused(BadTalk((3, 0), "outside"), with_row, TALK, (3, 0), bad)
        self.refused(BadTalk((0,), "outside"), with_row, TALK, (0,), bad)
        self.refused(BadTalk((1, 2, 1), "outside"), with_row, TALK, (1, 2, 1), bad)
        inner = report("own", come(), bad)
        self.refused(BadTalk((1, 0, 0, 1), "outside"), with_row, TALK, (1, 0, 0), inner)
        self.assertEqual(row_at(with_row(TALK, (1, 0, 0), bad), (1, 0, 0)), bad)


class WithWordTest(Case):
    def test_another_word_at_each_word_place(self):
        for path, index, old in words_of(TALK):
            kind = {"p": ("name", "dan"), "d": ("date", 99), "l": ("place", "york")}
            new = kind["ppdl"[index]] if isinstance(row_at(TALK, path), Report) else ("date", 77)
            made = with_word(TALK, path, index, new)
            told = [(p, i, w if (p, i) != (path, index) else new) for p, i, w in words_of(TALK)]
            self.assertEqual(list(words_of(made)), told)
            self.assertEqual(with_word(made, list(path), index, old), TALK)

    def test_words_refused_in_a_plain(self):
        for word in NO_WORDS + UNKNOWN_WORDS:
            self.refused(BadSaying("words"), with_word, TALK, (0,), 1, word)
        self.refused(BadTalk((0,), "outside"), with_word, TALK, (0,), 1, ("self",))
        self.refused(BadTalk((1, 2, 0), "outside"), with_word, TALK, [1, 2, 0], 0, ("then last", 0))

    def test_words_refused_in_a_report(self):
        for index, what in enumerate(("who", "whom", "day", "place")):
            for word in NO_WORDS:
                self.refused(BadSaying(what), with_word, TALK, (1, 0), index, word)
            for word in KNOWN_WORDS:
                if word[0] in (("name",), ("name",), ("date",), ("place",))[index]:
                    self.assertEqual(word_at(with_word(TALK, (1,), index, word), (1,), index), word)
        self.refused(BadSaying("who"), with_word, TALK, (1,), 0, ("here",))
        self.refused(BadSaying("day"), with_word, TALK, (1,), 2, ("I",))
        self.refused(BadSaying("place"), with_word, TALK, (1,), 3, ("one day",))
        self.refused(BadTalk((1,), "outside"), with_word, TALK, (1,), 3, ("there",))
        self.refused(BadTalk((3,), "outside"), with_word, TALK, (3,), 0, ("told",))
        for index, word in enumerate([("somebody",), ("somebody",), ("one day",), ("somewhere",)]):
            self.assertEqual(word_at(with_word(TALK, (1, 2), index, word), (1, 2), index), word)


class WalksTest(Case):
    def test_rows_in_the_order_of_reading(self):
        self.assertEqual(list(rows_of(TALK)), ROWS)
        self.assertEqual(list(rows_of(Talk([come()]))), [((0,), come())])

    def test_words_in_the_order_of_reading(self):
        told = []
        for path, row in ROWS:
            words = row.parts if isinstance(row, Report) else row.words
            told.extend((path, index, word) for index, word in enumerate(words))
        self.assertEqual(list(words_of(TALK)), told)
        self.assertEqual(told[2], ((1,), 0, ("somebody",)))
        self.assertEqual(list(words_of(Talk([come()]))), [])

    def test_they_are_generators_of_tuples(self):
        for walk in (rows_of, words_of):
            found = walk(TALK)
            self.assertTrue(hasattr(found, "__next__"))
            for entry in found:
                self.assertIsInstance(entry, tuple)
                self.assertIsInstance(entry[0], tuple)

    def test_reports_and_their_numbers(self):
        paths = ((1,), (1, 0), (1, 2), (3,))
        self.assertEqual(report_paths(TALK), paths)
        self.assertEqual(report_paths(Talk([come()])), ())
        for number, path in enumerate(paths):
            self.assertEqual(report_number(TALK, path), number)
            self.assertEqual(report_number(TALK, list(path)), number)
        for path, row in ROWS:
            if isinstance(row, Plain):
                self.refused(NoPath(len(path)), report_number, TALK, path)

    def test_equal_reports_have_numbers_of_their_own(self):
        row = nested(2)
        talk = Talk([row, row])
        self.assertEqual(report_paths(talk), ((0,), (0, 0), (1,), (1, 0)))
        self.assertEqual([report_number(talk, path) for path in report_paths(talk)], [0, 1, 2, 3])

    def test_unknown_parts(self):
        self.assertEqual(unknown_parts(TALK), ((0, 0), (1, 1), (1, 3), (2, 2), (3, 2)))
        self.assertEqual(unknown_parts(Talk([nested(4)])), ())
        unknown = Report(("somebody",), ("somebody",), ("one day",), ("somewhere",), "own", [come()])
        self.assertEqual(unknown_parts(Talk([come(), unknown])), ((0, 0), (0, 1), (0, 2), (0, 3)))

    def test_names_and_places(self):
        self.assertEqual(names_in(TALK), ("ann", "bob", "cy"))
        self.assertEqual(places_in(TALK), ("oslo", "rome"))
        self.assertEqual((names_in(Talk([come()])), places_in(Talk([come()]))), ((), ()))
        both = Talk([come(("name", "rome"), ("place", "bob"), ("name", "ann"), ("name", "rome"))])
        self.assertEqual((names_in(both), places_in(both)), (("ann", "rome"), ("bob",)))

    def test_random_talks(self):
        rng = random.Random(7)
        for _ in range(60):
            talk = random_talk(rng)
            for path, row in rows_of(talk):
                self.assertEqual(row_at(talk, path), row)
                self.assertEqual(with_row(talk, path, row), talk)
            for path, index, word in words_of(talk):
                self.assertEqual(word_at(talk, path, index), word)
                self.assertEqual(with_word(talk, path, index, word), talk)
            self.assertEqual(len(report_paths(talk)), talk.reports)
            self.assertEqual([path for path, row in rows_of(talk)], sorted(path for path, row in rows_of(talk)))


class ValuesTest(Case):
    RIGHT = [["eve", None, None, None], (None, "eve", None, "rome"), [0, 0, -3, 0], (None, None, 10 ** 39, [])]

    def test_only_unknown_parts_are_told(self):
        told = (
            ("eve", None, None, None), (None, "eve", None, "rome"), (None, None, -3, None),
            (None, None, 10 ** 39, None))
        self.assertEqual(check_values(TALK, self.RIGHT), told)
        self.assertEqual(check_values(TALK, tuple(self.RIGHT)), told)
        self.tuples_only(check_values(TALK, self.RIGHT))
        full = [("ann", "bob", 0, "oslo")] * 12
        self.assertEqual(check_values(TALK, full), (
            ("ann", None, None, None), (None, "bob", None, "oslo"), (None, None, 0, None), (None, None, 0, None)))
        self.assertEqual(check_values(TALK, check_values(TALK, full)), check_values(TALK, full))

    def test_rows_that_are_not_read_may_be_any_things_or_missing(self):
        known = Talk([nested(2), come(), LAST])
        for rows in ([None, 3, (0, 0, 1, 0)], [object(), "row", [0, 0, 1, 0], None], [(), (), ("a", True, 1, [])]):
            self.assertEqual(check_values(known, rows), ((None,) * 4, (None,) * 4, (None, None, 1, None)))
        self.assertEqual(check_values(Talk([nested(2)]), ()), ((None,) * 4, (None,) * 4))
        self.assertEqual(check_values(Talk([nested(1)]), ["any", "more"]), ((None,) * 4,))
        self.assertEqual(check_values(Talk([come()]), []), ())

    def test_values_that_are_no_sequence(self):
        for values in (None, "abcd", {0: self.RIGHT[0]}, 3, True, iter(self.RIGHT), range(4), object()):
            self.refused(BadValues(0), check_values, TALK, values)
            self.refused(BadValues(0), check_values, Talk([come()]), values)

    def test_the_first_report_that_lacks_what_is_read(self):
        for number in range(4):
            self.refused(BadValues(number), check_values, TALK, self.RIGHT[:number])
            self.refused(BadValues(number), check_values, TALK, self.RIGHT[:number] + [None] * 4)
            for row in (None, (), "abcd", ("eve",) * 3, ("eve",) * 5, {0: 1}, {0, 1, 2, 3}, iter("abcd"), 4):
                rows = self.RIGHT[:number] + [row] + self.RIGHT[number + 1:]
                self.refused(BadValues(number), check_values, TALK, rows)

    def test_entries_of_another_kind(self):
        for number, index in unknown_parts(TALK):
            wrong = [None, True, False, "Eve", "", ("eve",), ["eve"], 1.0]
            for entry in wrong + (["eve", "3"] if index == 2 else [3, 0, -1]):
                rows = [list(row) for row in self.RIGHT]
                rows[number][index] = entry
                self.refused(BadValues(number), check_values, TALK, rows)

    def test_a_list_that_is_changed_later_changes_nothing(self):
        rows = [list(row) for row in self.RIGHT]
        told = check_values(TALK, rows)
        rows[0][0] = "bob"
        self.assertEqual(told[0][0], "eve")


if __name__ == "__main__":
    unittest.main()
