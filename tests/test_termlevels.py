"""[3.5], [3.6]: levels of terms, and the words that are alike at one."""

import random
import unittest

from tests.helper import (
    KNOWN_WORDS, NO_WORDS, SHIFT, STAY, TONGUES, UNKNOWN_WORDS, Case, come, random_talk, samples,
)
from tests.test_terms import NO_TERMS, TERMS
from whosetomorrow.errors import BadTerm, BadWord, MeansNothing, NoPath
from whosetomorrow.hearing import level_at
from whosetomorrow.levels import inner_level, slot_of
from whosetomorrow.sevens import even_sevens, saw_sevens
from whosetomorrow.talks import Report, Talk
from whosetomorrow.talkways import report_number, report_paths, row_at, rows_of, words_of
from whosetomorrow.termlevels import inner_terms, outer_terms, term_said, terms_at, terms_within, words_alike
from whosetomorrow.terms import value_of

TODAY = ("sevens", ("D",), even_sevens(0))
OUTER = (("T",), ("H",), TODAY, ("Z",), None, None, None, None)
UNKNOWN = Report(("somebody",), ("somebody",), ("one day",), ("somewhere",), "indirect", [come()])
NESTED = Report(("you",), ("somebody",), ("coming", 2), ("place", "oslo"), "indirect", [
    Report(("self",), ("I",), ("then last", 4), ("there",), "own", [
        come(("I",), ("today", 1)), UNKNOWN]),
    Report(("somebody",), ("told",), ("that day", -2), ("here",), "indirect", [come(("self",), ("that day", 3))])])
TALK = Talk([come(("I",)), NESTED])


def every_known_word(level, term):
    """Return all known words, in their order, of the names, dates and places that a term and a level tell."""
    absolute = [entry for entry in (term,) + tuple(level) if entry is not None and len(entry) == 2]
    names = sorted({entry for entry in absolute if entry[0] == "name"})
    places = sorted({entry for entry in absolute if entry[0] == "place"})
    dates = sorted({entry for entry in absolute if entry[0] == "date"})
    days = [(head, k) for head in ("today", "that day") for k in range(-30, 31)]
    days += [(head, w) for head in ("coming", "last", "then coming", "then last") for w in range(7)]
    return (
        [("I",), ("you",), ("self",), ("told",)] + names + days + dates + [("here",), ("there",)] + places)


class LevelsTest(Case):
    def test_the_outermost_level(self):
        self.assertEqual(outer_terms(), OUTER)

    def test_inner_terms(self):
        own = (("H",), ("whom", 5), ("sevens", ("D",), saw_sevens(2, 0)), ("place", "oslo"))
        for tongue in TONGUES:
            self.assertEqual(inner_terms(OUTER, NESTED, 5, tongue), inner_level(OUTER, own, "indirect", tongue))
            level = inner_terms(OUTER, NESTED, 5, tongue)
            inner = inner_terms(level, NESTED.rows[0], 6, tongue)
            person = ("H",) if tongue.shifts_person else ("T",)
            self.assertEqual(inner, (
                ("H",), person, ("sevens", ("D",), saw_sevens(4, -5)), ("place", "oslo"), None, None, None, None))
        unknown = (("who", 11), ("whom", 11), ("sevens", ("day", 11), even_sevens(0)), ("where", 11))
        self.assertEqual(inner_terms(OUTER, UNKNOWN, 11, STAY), OUTER[:4] + unknown)
        self.assertEqual(inner_terms(OUTER, UNKNOWN, 11, SHIFT), unknown + unknown)
        self.assertEqual(
            inner_terms(OUTER, Report(*UNKNOWN.parts, "own", [come()]), 0, SHIFT), (
                ("who", 0), ("whom", 0), ("sevens", ("day", 0), even_sevens(0)), ("where", 0), None, None, None, None))

    def test_inner_terms_of_a_report_that_means_nothing_there(self):
        for index, word in enumerate([("self",), ("told",), ("then last", 3), ("there",)]):
            parts = [("I",), ("you",), ("today", 0), ("here",)]
            parts[index] = word
            self.refused(MeansNothing(word), inner_terms, OUTER, Report(*parts, "own", [come()]), 0, STAY)
            self.refused(MeansNothing(word), inner_terms, OUTER, Report(*parts, "indirect", [come()]), 0, SHIFT)
        both = Report(("I",), ("told",), ("that day", 0), ("there",), "own", [come()])
        self.refused(MeansNothing(("told",)), inner_terms, OUTER, both, 0, STAY)

    def test_levels_by_hand(self):
        self.assertEqual(terms_at(TALK, (0,), STAY), OUTER)
        self.assertEqual(terms_at(TALK, [1], SHIFT), OUTER)
        day = ("sevens", ("D",), saw_sevens(2, 0))
        self.assertEqual(terms_at(TALK, (1, 1), STAY), OUTER[:4] + (("H",), ("whom", 0), day, ("place", "oslo")))
        self.assertEqual(terms_within(TALK, (1,), STAY), terms_at(TALK, (1, 0), STAY))
        self.assertEqual(terms_within(TALK, (1, 0), STAY), (
            ("H",), ("T",), ("sevens", ("D",), saw_sevens(4, -5)), ("place", "oslo"), None, None, None, None))
        unknown = (("who", 2), ("whom", 2), ("sevens", ("day", 2), even_sevens(0)), ("where", 2))
        self.assertEqual(terms_within(TALK, [1, 0, 1], SHIFT), unknown + unknown)
        back = ("sevens", ("D",), saw_sevens(0, -2))
        self.assertEqual(
            terms_within(TALK, (1, 1), STAY), OUTER[:4] + (("who", 3), ("whom", 0), back, ("Z",)))
        self.assertEqual(term_said(terms_at(TALK, (1, 1, 0), STAY), ("that day", 3)), (
            "sevens", ("D",), saw_sevens(3, 1)))

    def test_levels_of_random_talks(self):
        for talk, situation, tongue, values in samples(80, 71):
            for path, _ in rows_of(talk):
                level = terms_at(talk, path, tongue)
                told = tuple(None if term is None else value_of(term, situation, values) for term in level)
                self.assertEqual(told, level_at(talk, path, situation, tongue, values))
                if len(path) > 1:
                    self.assertEqual(terms_within(talk, path[:-1], tongue), level)
                    outside = terms_at(talk, path[:-1], tongue)
                    number = report_number(talk, path[:-1])
                    self.assertEqual(inner_terms(outside, row_at(talk, path[:-1]), number, tongue), level)
            for path in report_paths(talk):
                self.assertEqual(terms_within(talk, list(path), tongue), terms_at(talk, path + (0,), tongue))

    def test_no_path(self):
        for path, at in [
                (None, 0), (3, 0), ("", 0), ({}, 0), ((2,), 0), ((True,), 0), ((0, 0), 1), ((1, 2), 1),
                ((1, 0, 0, 0), 3)]:
            self.refused(NoPath(at), terms_at, TALK, path, STAY)
            self.refused(NoPath(at), terms_within, TALK, path, STAY)
        self.refused(NoPath(0), terms_at, TALK, (), STAY)
        self.refused(NoPath(0), terms_at, TALK, [], STAY)
        for path in ((), []):
            self.assertEqual(terms_within(TALK, path, STAY), OUTER)
        for path in ((0,), (1, 0, 0), [1, 1, 0]):
            self.refused(NoPath(len(path)), terms_within, TALK, path, STAY)


class TermSaidTest(Case):
    LEVEL = (
        ("T",), ("who", 3), ("sevens", ("D",), saw_sevens(1, 0)), ("Z",), ("H",), ("name", "cy"), ("date", 10),
        ("where", 2))

    def test_the_term_of_each_word(self):
        for word, term in [
                (("I",), ("T",)), (("you",), ("who", 3)), (("self",), ("H",)), (("told",), ("name", "cy")),
                (("here",), ("Z",)), (("there",), ("where", 2)), (("name", "bob"), ("name", "bob")),
                (("place", "rome"), ("place", "rome")), (("date", -4), ("date", -4)),
                (("today", -30), ("sevens", ("D",), saw_sevens(6, -30))),
                (("today", 0), ("sevens", ("D",), saw_sevens(1, 0))),
                (("coming", 1), ("sevens", ("D",), saw_sevens(1, 7))),
                (("coming", 4), ("sevens", ("D",), saw_sevens(4, 3))),
                (("last", 1), ("sevens", ("D",), saw_sevens(1, -7))),
                (("last", 4), ("sevens", ("D",), saw_sevens(4, -4))),
                (("that day", 3), ("date", 13)), (("then coming", 3), ("date", 17)), (("then last", 3), ("date", 3))]:
            self.assertEqual(term_said(self.LEVEL, word), term)

    def test_bad_words_then_what_means_nothing(self):
        for thing in NO_WORDS:
            self.refused(BadWord(), term_said, self.LEVEL, thing)
            self.refused(BadWord(), term_said, (None,) * 8, thing)
        for word in UNKNOWN_WORDS:
            self.refused(MeansNothing(word), term_said, self.LEVEL, word)
        for word in KNOWN_WORDS:
            slot = slot_of(word)
            if slot is None:
                self.assertEqual(term_said((None,) * 8, word), word)
            else:
                bare = self.LEVEL[:slot] + (None,) + self.LEVEL[slot + 1:]
                self.refused(MeansNothing(word), term_said, bare, word)


class WordsAlikeTest(Case):
    def check(self, level, term):
        """Check against all words one by one."""
        told = []
        for word in every_known_word(level, term):
            try:
                if term_said(level, word) == term:
                    told.append(word)
            except MeansNothing:
                continue
        self.assertEqual(words_alike(level, term), tuple(told))
        self.tuples_only(words_alike(level, term))
        return told

    def test_by_hand_in_the_told_order(self):
        level = (
            ("name", "cy"), ("name", "cy"), ("date", 3), ("place", "rome"), ("name", "cy"), ("name", "cy"),
            ("date", 5), ("place", "rome"))
        self.assertEqual(self.check(level, ("name", "cy")), [("I",), ("you",), ("self",), ("told",), ("name", "cy")])
        self.assertEqual(self.check(level, ("place", "rome")), [("here",), ("there",), ("place", "rome")])
        self.assertEqual(self.check(level, ("date", 4)), [
            ("today", 1), ("that day", -1), ("coming", 4), ("then last", 4), ("date", 4)])
        self.assertEqual(self.check(level, ("date", 10)), [
            ("today", 7), ("that day", 5), ("coming", 3), ("then coming", 3), ("date", 10)])
        self.assertEqual(self.check(level, ("date", 0)), [
            ("today", -3), ("that day", -5), ("last", 0), ("then last", 0), ("date", 0)])
        self.assertEqual(self.check(level, ("date", 33)), [("today", 30), ("that day", 28), ("date", 33)])
        self.assertEqual(self.check(level, ("date", 35)), [("that day", 30), ("date", 35)])
        self.assertEqual(self.check(level, ("date", 36)), [("date", 36)])
        self.assertEqual(self.check(level, ("T",)), [])
        self.assertEqual(self.check(OUTER, ("sevens", ("D",), saw_sevens(3, 0))), [("coming", 3)])
        self.assertEqual(self.check(OUTER, ("sevens", ("D",), saw_sevens(3, -8))), [("last", 3)])
        self.assertEqual(self.check(OUTER, ("sevens", ("D",), even_sevens(-30))), [("today", -30)])
        self.assertEqual(self.check(OUTER, ("sevens", ("D",), even_sevens(30))), [("today", 30)])
        for k in (31, -31, 38, -38):
            self.assertEqual(self.check(OUTER, ("sevens", ("D",), even_sevens(k))), [])
            self.assertEqual(self.check(level, ("date", 3 + k)), [
                word for word in [("that day", k - 2), ("date", 3 + k)] if word[0] == "date" or -30 <= k - 2 <= 30])
        self.assertEqual(self.check(OUTER, ("sevens", ("day", 0), even_sevens(0))), [])
        self.assertEqual(self.check(OUTER, ("who", 0)), [])
        self.assertEqual(self.check(OUTER, ("H",)), [("you",)])

    def test_words_that_can_be_alike_in_saws(self):
        level = OUTER[:2] + (("sevens", ("D",), saw_sevens(3, 0)), ("Z",), ("T",), ("H",), TODAY, ("Z",))
        self.assertEqual(self.check(level, ("sevens", ("D",), saw_sevens(3, 0))), [("today", 0), ("then coming", 3)])
        self.assertEqual(self.check(level, ("sevens", ("D",), saw_sevens(3, 7))), [("today", 7), ("coming", 3)])
        self.assertEqual(self.check(level, ("sevens", ("D",), saw_sevens(3, -7))), [("today", -7), ("last", 3)])
        self.assertEqual(self.check(level, ("sevens", ("D",), saw_sevens(3, -8))), [("then last", 3)])
        self.assertEqual(self.check(level, ("Z",)), [("here",), ("there",)])

    def test_every_term_at_levels_of_talks(self):
        rng = random.Random(72)
        for _ in range(12):
            talk = random_talk(rng, 4)
            tongue = rng.choice(TONGUES)
            for path, index, word in rng.sample(list(words_of(talk)), min(4, len(list(words_of(talk))))):
                level = terms_at(talk, path, tongue)
                for term in rng.sample(TERMS, 6) + [entry for entry in level if entry is not None]:
                    self.check(level, term)
                if word not in UNKNOWN_WORDS:
                    self.assertIn(word, self.check(level, term_said(level, word)))

    def test_no_term(self):
        for thing in NO_TERMS:
            self.refused(BadTerm(), words_alike, OUTER, thing)

    def test_names_stand_for_themselves_at_empty_levels(self):
        for term in [("name", "ann"), ("place", "rome"), ("date", 4)]:
            self.assertEqual(words_alike((None,) * 8, term), (term,))
        self.assertEqual(words_alike((None,) * 8, TODAY), ())
        for slot in (2, 6):
            saw = ("sevens", ("D",), saw_sevens(3, 0))
            level = (("T",), ("H",), None, ("Z",), ("T",), ("H",), None, ("Z",))
            self.assertEqual(words_alike(level, saw), ())
            level = level[:slot] + (TODAY,) + level[slot + 1:]
            self.assertEqual(words_alike(level, saw), (("coming" if slot == 2 else "then coming", 3),))


if __name__ == "__main__":
    unittest.main()
