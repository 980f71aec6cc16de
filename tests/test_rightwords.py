"""[6.2]: right words."""

import random
import unittest

from tests.factkit import CLASH, NONE, D, FactCase, fitting_facts
from tests.helper import NO_WORDS, SHIFT, TONGUES, UNKNOWN_WORDS, come, random_talk, report
from tests.test_sure import trials
from tests.test_terms import NO_TERMS
from whosetomorrow.clashes import find_clash
from whosetomorrow.errors import BadTerm, BadWord, MeansNothing, NoFit
from whosetomorrow.facts import Facts
from whosetomorrow.fitting import a_fit
from whosetomorrow.forms import form_of, terms_in
from whosetomorrow.levels import NOTHING
from whosetomorrow.menus import Menu
from whosetomorrow.rightwords import against_fault, against_menu, first_right, is_right, right_words, why_wrong
from whosetomorrow.sevens import even_sevens, saw_sevens
from whosetomorrow.situations import Situation
from whosetomorrow.sure import sure_same
from whosetomorrow.talks import Talk
from whosetomorrow.talkways import rows_of
from whosetomorrow.termlevels import outer_terms, term_said, terms_at
from whosetomorrow.terms import check_term, value_of
from whosetomorrow.words import kind_of

MENU = Menu(["ann", "bob"], ["rome"], [3, 10])
OUTER = outer_terms()
TODAY = ("sevens", D, even_sevens(0))
WITHIN = (("name", "cy"), ("T",), ("date", 9), ("Z",), ("name", "cy"), ("T",), ("date", 9), ("Z",))
MANY = Facts([
    ("same", ("T",), ("name", "ann")), ("same", ("H",), ("who", 0)), ("weekday", D, 3), ("weekday", ("day", 0), 3),
    ("between", D, ("day", 0), 1, 13), ("same", ("where", 0), ("Z",))])


def samples(seed, many):
    """Yield (level, term, facts) of words in random talks."""
    rng = random.Random(seed)
    for at in range(many):
        talk, tongue = random_talk(rng, 3, 2), TONGUES[at % 16]
        path = rng.choice([path for path, _ in rows_of(talk)])
        terms = [term for _, _, term in terms_in(form_of(talk, tongue))] or [("T",)]
        facts = rng.choice([MANY, NONE, fitting_facts(rng, 6)])
        yield rng, terms_at(talk, path, tongue), rng.choice(terms), facts


def meaning_or_none(level, word):
    """Return the term of a word at a level, None if it means nothing there."""
    try:
        return term_said(level, word)
    except MeansNothing:
        return None


class RightWordsTest(FactCase):
    def test_against_the_meanings_in_many_fits(self):
        right = wrong = 0
        for rng, level, term, facts in samples(1001, 60):
            fits = list(trials(rng, facts, 5))
            told = right_words(level, term, facts, MENU)
            self.assertEqual(list(told), [word for word in MENU if word in told])
            self.assertEqual(first_right(level, term, facts, MENU), told[0] if told else None)
            for word in MENU:
                own = meaning_or_none(level, word)
                self.assertIs(is_right(level, term, facts, word), word in told)
                if own is None:
                    self.assertNotIn(word, told)
                    self.refused(MeansNothing(word), why_wrong, level, term, facts, word)
                    continue
                fit = why_wrong(level, term, facts, word)
                if word in told:
                    right += 1
                    self.assertIsNone(fit)
                    self.assertIsNone(sure_same(facts, own, term))
                    for trial in fits:
                        self.assertEqual(value_of(own, *trial), value_of(term, *trial))
                else:
                    wrong += 1
                    self.check_fit(facts, fit)
                    if kind_of(word) == check_term(term):
                        self.assertNotEqual(value_of(own, *fit), value_of(term, *fit))
        self.assertGreater(min(right, wrong), 40)

    def test_a_word_of_another_kind(self):
        for facts in (NONE, MANY):
            self.assertFalse(is_right(OUTER, ("T",), facts, ("here",)))
            self.assertFalse(is_right(OUTER, ("name", "ann"), facts, ("place", "ann")))
            self.check_fit(facts, why_wrong(OUTER, ("T",), facts, ("today", 0)))
            self.check_fit(facts, why_wrong(OUTER, TODAY, facts, ("I",)))
        self.refused(MeansNothing(("there",)), why_wrong, OUTER, ("T",), NONE, ("there",))

    def test_facts_that_make_a_word_right(self):
        for level, term, word, fact in [
                (OUTER, ("T",), ("name", "ann"), ("same", ("T",), ("name", "ann"))),
                (OUTER, ("who", 3), ("I",), ("same", ("T",), ("who", 3))),
                (OUTER, ("place", "rome"), ("here",), ("same", ("place", "rome"), ("Z",))),
                (OUTER, TODAY, ("date", 3), ("between", ("date", 3), D, 0, 0)),
                (OUTER, ("sevens", D, even_sevens(1)), ("coming", 3), ("weekday", D, 2)),
                (OUTER, ("sevens", D, even_sevens(-7)), ("last", 3), ("weekday", D, 3)),
                (OUTER, ("sevens", ("day", 0), even_sevens(2)), ("today", 1), ("between", D, ("day", 0), -1, -1)),
                (WITHIN, ("sevens", D, even_sevens(0)), ("that day", 2), ("between", D, ("date", 11), 0, 0)),
                (WITHIN, ("H",), ("self",), ("same", ("name", "cy"), ("H",)))]:
            self.assertFalse(is_right(level, term, NONE, word))
            self.assertTrue(is_right(level, term, Facts([fact]), word))
            self.assertNotIn(word, right_words(level, term, NONE, Menu(["ann"], [], [3])))
            self.assertIn(word, right_words(level, term, Facts([fact]), Menu(["ann"], [], [3])))
        self.assertEqual(right_words(OUTER, ("T",), MANY, MENU), (("I",), ("name", "ann")))
        self.assertEqual(right_words(OUTER, ("who", 0), MANY, MENU), (("you",),))
        self.assertEqual(right_words(OUTER, ("sevens", ("day", 0), even_sevens(0)), MANY, MENU), (("today", 7), ("coming", 3)))
        self.assertEqual(first_right(OUTER, ("sevens", ("day", 0), even_sevens(0)), MANY, MENU), ("today", 7))
        self.assertIsNone(first_right(OUTER, ("who", 5), MANY, MENU))

    def test_own_words_of_a_level(self):
        self.assertEqual(right_words(WITHIN, ("name", "cy"), NONE, MENU), (("I",), ("self",)))
        self.assertEqual(right_words(WITHIN, ("date", 10), NONE, MENU), (
            ("today", 1), ("that day", 1), ("coming", 3), ("then coming", 3), ("date", 10)))
        self.assertEqual(right_words(OUTER[:4] + NOTHING, ("Z",), NONE, MENU), (("here",),))


class AgainstMenuTest(FactCase):
    def words_against(self, level, term):
        return [word for word in MENU.words_for(check_term(term)) if meaning_or_none(level, word) is not None]

    def test_each_fit_parts_a_word_that_no_fit_ahead_parts(self):
        none = several = 0
        for _, level, term, facts in samples(1002, 150):
            fits = against_menu(level, term, facts, MENU)
            if right_words(level, term, facts, MENU):
                self.assertIsNone(fits)
                self.assertEqual(against_fault(level, term, facts, MENU, (a_fit(facts),)), "word")
                none += 1
                continue
            self.tuples_only([fit[1] for fit in fits][0])
            self.assertIsInstance(fits, tuple)
            self.assertGreater(len(fits), 0)
            several += len(fits) > 1
            self.assertIsNone(against_fault(level, term, facts, MENU, fits))
            left = [term_said(level, word) for word in self.words_against(level, term)]
            for fit in fits:
                self.check_fit(facts, fit)
                still = [own for own in left if value_of(own, *fit) == value_of(term, *fit)]
                self.assertLess(len(still), len(left))
                left = still
            self.assertEqual(left, [])
            self.assertEqual(against_fault(level, term, facts, MENU, ()), "word")
            if len(fits) > 1:
                self.assertEqual(against_fault(level, term, facts, MENU, fits[1:]) is None, all(
                    any(value_of(term_said(level, word), *fit) != value_of(term, *fit) for fit in fits[1:])
                    for word in self.words_against(level, term)))
        self.assertGreater(none, 10)
        self.assertGreater(several, 3)

    def test_several_fits_are_needed(self):
        # Whatever the outermost day is, some "coming" word may mean tomorrow; so more than one fit is told.
        far = ("sevens", ("day", 3), even_sevens(0))
        facts = Facts([("between", D, ("day", 3), 1, 2)])
        fits = against_menu(OUTER, far, facts, MENU)
        self.assertGreater(len(fits), 1)
        for at in range(len(fits)):
            self.assertEqual(against_fault(OUTER, far, facts, MENU, (fits[at],)), "word")
        self.assertIsNone(against_fault(OUTER, far, facts, MENU, fits))
        self.assertIsNone(against_fault(OUTER, far, facts, MENU, list(fits)))
        self.assertIsNone(against_fault(OUTER, far, facts, MENU, fits[::-1] + fits))

    def test_against_fault(self):
        facts = Facts([("unlike", ("T",), ("H",)), ("weekday", ("day", 2), 4)])
        full = (("pat", "quin", 4, "york"),) * 12
        good = (Situation("ann", "bob", 0, "rome"), full)
        term = ("who", 0)
        menu = Menu(["eve"])
        self.assertIsNone(against_fault(OUTER, term, facts, menu, (good,)))
        for bad in [(Situation("ann", "ann", 0, "rome"), full), (good[0], (("pat", "quin", 5, "york"),) * 12)]:
            self.assertEqual(against_fault(OUTER, term, facts, menu, (bad,)), "fit")
            self.assertEqual(against_fault(OUTER, term, facts, menu, (good, bad)), "fit")
            self.assertEqual(against_fault(OUTER, term, facts, menu, (bad, good)), "fit")
        self.assertEqual(against_fault(OUTER, term, facts, menu, ()), "word")
        # "fit" comes first: in the second pair the facts are not true.
        same = (Situation("pat", "bob", 0, "rome"), full)
        self.assertEqual(against_fault(OUTER, term, facts, menu, (same,)), "word")
        self.assertEqual(against_fault(OUTER, term, facts, menu, (same, good)), None)
        self.assertEqual(against_fault(OUTER, term, facts, menu, (same, bad)), "fit")
        self.assertEqual(against_fault(OUTER, term, facts, Menu(["pat"]), (good,)), "word")
        # Words that mean nothing at the level, or are of another kind, are not asked for.
        self.assertIsNone(against_fault(OUTER, ("where", 0), facts, Menu(["york"]), (good,)))
        self.assertEqual(against_fault(WITHIN, ("name", "cy"), NONE, menu, (good,)), "word")
        # Values that lack what facts or the term ask for are those of no fit.
        for values in ((), full[:2], full[:1]):
            self.assertEqual(against_fault(OUTER, term, facts, menu, (good, (good[0], values))), "fit")
        self.assertEqual(against_fault(OUTER, ("who", 2), NONE, menu, ((good[0], full[:2]),)), "fit")


class ErrorsTest(FactCase):
    CALLS = (is_right, why_wrong)
    MENU_CALLS = (right_words, first_right, against_menu)

    def test_no_fit_then_bad_term_then_bad_word(self):
        self.assertEqual(find_clash(CLASH), (0, 2))
        for thing in NO_WORDS + UNKNOWN_WORDS:
            for call in self.CALLS:
                self.refused(BadWord(), call, OUTER, ("T",), NONE, thing)
                self.refused(BadTerm(), call, OUTER, None, NONE, thing)
                self.refused(NoFit((0, 2)), call, OUTER, None, CLASH, thing)
        for bad in NO_TERMS:
            for call in self.CALLS:
                self.refused(BadTerm(), call, OUTER, bad, NONE, ("I",))
            for call in self.MENU_CALLS:
                self.refused(BadTerm(), call, OUTER, bad, NONE, MENU)
                self.refused(NoFit((0, 2)), call, OUTER, bad, CLASH, MENU)
            self.refused(BadTerm(), against_fault, OUTER, bad, NONE, MENU, ())
            self.refused(NoFit((0, 2)), against_fault, OUTER, bad, CLASH, MENU, ())

    def test_means_nothing(self):
        for word in (("self",), ("told",), ("that day", 0), ("then coming", 3), ("then last", 3), ("there",)):
            for term in (("T",), ("Z",), TODAY):
                self.refused(MeansNothing(word), why_wrong, OUTER, term, NONE, word)
                self.assertIs(is_right(OUTER, term, NONE, word), False)
                self.refused(NoFit((0, 2)), why_wrong, OUTER, term, CLASH, word)

    def test_levels_of_talks(self):
        talk = Talk([report("indirect", come(("I",)))])
        level = terms_at(talk, (0, 0), SHIFT)
        self.assertEqual(right_words(level, ("name", "cy"), NONE, Menu(["cy"])), (("I",), ("self",), ("name", "cy")))
        self.assertEqual(right_words(level, ("sevens", ("day", 1), saw_sevens(3, 0)), NONE, MENU), ())


if __name__ == "__main__":
    unittest.main()
