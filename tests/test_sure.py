"""[4.9]: what is sure under facts."""

import random
import unittest

from tests.factkit import (
    CLASH, D, NONE, PERSONS, SPOTS, FactCase, fitting_facts, random_day_fact, random_name_fact,
)
from tests.helper import STAY, TONGUES, come, random_talk, random_word, report
from tests.test_facts import NO_FACTS
from tests.test_terms import NO_TERMS
from whosetomorrow.alike import first_unlike
from whosetomorrow.clashes import find_clash
from whosetomorrow.errors import BadFact, BadForm, BadTalk, BadTerm, NoFit
from whosetomorrow.facts import Facts, is_true_at
from whosetomorrow.fitting import a_fit, fit_between
from whosetomorrow.forms import form_of, form_value
from whosetomorrow.hearing import hear_talk
from whosetomorrow.sevens import even_sevens, saw_sevens
from whosetomorrow.sure import Unsure, follows, needless_facts, sure_form, sure_same
from whosetomorrow.talks import Plain, Talk
from whosetomorrow.talkways import with_word, words_of
from whosetomorrow.terms import value_of
from whosetomorrow.words import is_unknown, kind_of

TODAY = ("sevens", D, even_sevens(0))
OTHER = ("sevens", ("day", 0), even_sevens(0))
DAYS = [("sevens", root, sevens) for root in (D, ("day", 0)) for sevens in (
    even_sevens(0), even_sevens(1), even_sevens(-6), saw_sevens(0, 0), saw_sevens(3, 0), saw_sevens(3, -8),
    saw_sevens(3, -3))] + [("date", n) for n in (0, 3, 10)]


def trials(rng, facts, many):
    """Yield some fits: random ones of days near date 0, and such with all persons unlike."""
    base = a_fit(facts)
    yield base
    for _ in range(many):
        one, other = rng.choice(DAYS), rng.choice(DAYS)
        low = rng.randint(-9, 9)
        fit = fit_between(facts, one, other, low, low + rng.randint(0, 3))
        if fit is not None:
            yield fit


class SureSameTest(FactCase):
    def test_none_exactly_if_no_fit_parts_them(self):
        rng = random.Random(801)
        sure = unsure = 0
        for _ in range(400):
            marks = [D, ("day", 0), ("date", 0), ("date", 3)]
            facts = fitting_facts(rng, 6, marks) if rng.random() < 0.5 else Facts(
                [("weekday", D, rng.randint(0, 6)), ("between", D, ("day", 0), rng.randint(-1, 2), 2)])
            group = rng.choice([PERSONS, SPOTS, DAYS, DAYS, DAYS])
            one, other = rng.choice(group), rng.choice(group)
            fit = sure_same(facts, one, other)
            if fit is None:
                sure += 1
                for trial in trials(rng, facts, 6):
                    self.assertEqual(value_of(one, *trial), value_of(other, *trial))
                if group is DAYS:
                    self.assertIsNone(fit_between(facts, one, other, 1, None))
                    self.assertIsNone(fit_between(facts, one, other, None, -1))
            else:
                unsure += 1
                self.check_fit(facts, fit)
                self.assertNotEqual(value_of(one, *fit), value_of(other, *fit))
        self.assertGreater(min(sure, unsure), 40)

    def test_days_exactly_if_no_difference_is_left(self):
        rng = random.Random(802)
        for _ in range(300):
            facts = fitting_facts(rng, 5, [D, ("day", 0), ("date", 0), ("date", 3)])
            one, other = rng.choice(DAYS), rng.choice(DAYS)
            apart = [fit_between(facts, one, other, 1, None), fit_between(facts, one, other, None, -1)]
            self.assertEqual(sure_same(facts, one, other) is None, apart == [None, None])

    def test_unlike_kinds_and_equal_terms(self):
        for one, other in [(("T",), ("Z",)), (("name", "ann"), ("place", "ann")), (TODAY, ("T",)), (("Z",), ("date", 0))]:
            for facts in (NONE, Facts([("weekday", D, 3), ("same", ("T",), ("name", "ann"))])):
                self.check_fit(facts, sure_same(facts, one, other))
                self.check_fit(facts, sure_same(facts, other, one))
        for term in PERSONS + SPOTS + DAYS:
            self.assertIsNone(sure_same(NONE, term, term))

    def test_sevens_of_one_root(self):
        coming, last = ("sevens", D, saw_sevens(3, 0)), ("sevens", D, saw_sevens(3, -8))
        tomorrow = ("sevens", D, even_sevens(1))
        for rest in range(7):
            facts = Facts([("weekday", D, rest)])
            self.assertEqual(sure_same(facts, coming, tomorrow) is None, rest == 2)
            self.assertEqual(sure_same(facts, last, ("sevens", D, even_sevens(-7))) is None, rest == 3)
            self.assertIsNotNone(sure_same(facts, coming, last))
        fit = sure_same(NONE, coming, tomorrow)
        self.assertNotEqual(fit[0].day % 7, 2)
        self.assertIsNone(sure_same(Facts([("between", ("date", 9), D, 0, 0)]), coming, tomorrow))
        # The first such day behind three days ago is the coming one on the days 0 to 2 and 6, the last one on 4 and 5.
        half = ("sevens", D, saw_sevens(3, -3))
        for low, high, same in ((0, 2, coming), (6, 6, coming), (4, 5, last), (3, 3, TODAY)):
            facts = Facts([("between", ("date", 0), D, low, high)])
            self.assertIsNone(sure_same(facts, half, same))
            wider = Facts([("between", ("date", 0), D, low - 1, high + 2)])
            self.check_fit(wider, sure_same(wider, half, same))

    def test_sevens_of_two_roots(self):
        week = Facts([("between", ("date", 0), D, 0, 6), ("between", ("date", 0), ("day", 0), 0, 6)])
        coming, other = ("sevens", D, saw_sevens(0, 0)), ("sevens", ("day", 0), saw_sevens(0, 0))
        self.assertIsNone(sure_same(week, coming, other))
        self.assertIsNone(sure_same(week, coming, ("date", 7)))
        self.assertIsNone(sure_same(Facts(week.rows[:1]), coming, ("date", 7)))
        self.check_fit(week, sure_same(week, coming, ("sevens", ("day", 0), saw_sevens(1, 0))))
        self.check_fit(week, sure_same(week, TODAY, OTHER))
        self.assertIsNone(sure_same(Facts([("between", D, ("day", 0), 3, 3)]), ("sevens", D, even_sevens(3)), OTHER))
        self.assertIsNotNone(sure_same(Facts([("between", D, ("day", 0), 3, 4)]), ("sevens", D, even_sevens(3)), OTHER))
        # One bound alone leaves a difference without end.
        for bounds in ((3, None), (None, 3)):
            facts = Facts([("between", D, ("day", 0), *bounds)])
            self.check_fit(facts, sure_same(facts, ("sevens", D, even_sevens(3)), OTHER))
        mondays = Facts([("weekday", D, 1), ("weekday", ("day", 0), 1), ("between", D, ("day", 0), 1, 13)])
        self.assertIsNone(sure_same(mondays, ("sevens", D, even_sevens(7)), OTHER))
        self.assertIsNone(sure_same(mondays, ("sevens", D, saw_sevens(1, 0)), OTHER))
        self.assertIsNone(sure_same(mondays, TODAY, ("sevens", ("day", 0), saw_sevens(1, -8))))

    def test_days_of_known_rests_with_and_without_bounds(self):
        mondays = [("weekday", D, 1), ("weekday", ("day", 0), 1)]
        for low, high in [(None, None), (7, None), (None, 7), (7, 14), (0, 7), (6, 8), (1, 13), (1, 14), (0, 13), (14, 14), (None, -7), (-7, None)]:
            facts = Facts(mondays + [("between", D, ("day", 0), low, high)])
            for weeks in range(-1, 4):
                fit = sure_same(facts, ("sevens", D, even_sevens(7 * weeks)), OTHER)
                only = weeks == 1 and (low, high) in ((6, 8), (1, 13)) or weeks == 2 and low == 14
                self.assertEqual(fit is None, only, (low, high, weeks))
                if fit is not None:
                    self.check_fit(facts, fit)
                    self.assertNotEqual(fit[0].day + 7 * weeks, fit[1][0][2])

    def test_names_of_the_terms_are_not_taken(self):
        for name in ("aaa", "aab", "aac"):
            fit = sure_same(NONE, ("T",), ("name", name))
            self.assertNotEqual(fit[0].teller, name)
            fit = sure_same(NONE, ("place", name), ("where", 5))
            self.assertNotEqual(fit[1][5][3], name)

    def test_errors(self):
        for bad in NO_TERMS:
            self.refused(BadTerm(), sure_same, NONE, bad, ("T",))
            self.refused(BadTerm(), sure_same, NONE, ("T",), bad)
            self.refused(NoFit((0, 2)), sure_same, CLASH, bad, ("T",))
        self.refused(BadTerm(), sure_same, NONE, D, TODAY)


def related(rng, tongue):
    """Return the forms of two random talks that differ in little or nothing."""
    talk = random_talk(rng, 3)
    other = talk
    for _ in range(rng.randint(0, 3)):
        places = [(path, index, word) for path, index, word in words_of(other) if not is_unknown(word)]
        if places:
            path, index, word = rng.choice(places)
            try:
                other = with_word(other, path, index, random_word(rng, kind_of(word), len(path) > 1, False))
            except BadTalk:
                continue
    return form_of(talk, tongue), form_of(other, tongue)


class SureFormTest(FactCase):
    def test_the_first_place_that_is_not_alike_in_every_fit(self):
        rng = random.Random(803)
        sure = unsure = 0
        for at in range(200):
            one, other = related(rng, TONGUES[at % 16])
            facts = Facts([("same", ("T",), rng.choice([("name", "ann"), ("H",)])), ("same", ("Z",), ("place", "rome")),
                           ("weekday", D, rng.randint(0, 6))]) if at % 2 else fitting_facts(rng, 6)
            told = sure_form(facts, one, other)
            if told is None:
                sure += 1
                for fit in trials(rng, facts, 4):
                    self.assertEqual(form_value(one, *fit), form_value(other, *fit))
                continue
            unsure += 1
            self.assertIsInstance(told, Unsure)
            self.check_fit(facts, (told.situation, told.value_rows))
            self.tuples_only(told.path)
            terms, others = places_of(one), places_of(other)
            if told.index is None:
                self.assertEqual(first_unlike(one, other)[1], None)
                continue
            place = (told.path, told.index)
            self.assertNotEqual(
                value_of(terms[place], told.situation, told.value_rows),
                value_of(others[place], told.situation, told.value_rows))
            self.assertIsNotNone(sure_same(facts, terms[place], others[place]))
            for key in list(terms)[:list(terms).index(place)]:
                self.assertIsNone(sure_same(facts, terms[key], others[key]))
        self.assertGreater(min(sure, unsure), 30)

    def test_no_place_of_the_wrong_shape_is_passed_by(self):
        a, b, go = come(("I",)), come(("you",)), Plain("go", [])
        facts = Facts([("same", ("T",), ("H",))])
        for one, other, path, index in [
                ([a], [a, b], (), None), ([a, go], [b, come()], (1,), None), ([a], [go], (0,), None),
                ([report("own", a)], [report("indirect", a)], (0,), None), ([a], [come()], (0,), None),
                ([a, come(("here",))], [b, come(("place", "rome"))], (1,), 0),
                ([report("own", a), come(("I",))], [report("own", a, a), come(("here",))], (0,), None),
                ([report("own", a, who=("I",))], [report("own", go, who=("you",))], (0, 0), None),
                ([report("own", a, place=("here",))], [report("own", go)], (0,), 3),
                ([a], [report("own", a)], (0,), None), ([a], [come(("today", 0))], (0,), 0)]:
            told = sure_form(facts, form_of(Talk(one), STAY), form_of(Talk(other), STAY))
            self.assertEqual((told.path, told.index), (path, index))
            self.check_fit(facts, (told.situation, told.value_rows))
        self.assertIsNone(sure_form(facts, form_of(Talk([a]), STAY), form_of(Talk([b]), STAY)))
        told = sure_form(NONE, form_of(Talk([a]), STAY), form_of(Talk([b]), STAY))
        self.assertEqual((told.path, told.index), ((0,), 0))
        self.assertNotEqual(
            hear_talk(Talk([a]), told.situation, STAY, told.value_rows),
            hear_talk(Talk([b]), told.situation, STAY, told.value_rows))

    def test_errors(self):
        good = form_of(Talk([come()]), STAY)
        self.refused(BadForm((0,)), sure_form, NONE, (None,), ())
        self.refused(BadForm(()), sure_form, NONE, good, ())
        self.refused(BadForm((1,)), sure_form, NONE, good, good + (3,))
        self.refused(NoFit((0, 2)), sure_form, CLASH, (None,), ())

    def test_a_result_keeps_what_it_is_given(self):
        path = [0]
        self.assertIs(Unsure(path, 1, 2, 3).path, path)
        self.assertEqual(vars(Unsure(value_rows=4, situation=3, index=2, path=1)),
                         {"path": 1, "index": 2, "situation": 3, "value_rows": 4})
        self.equal_only((Unsure((0,), 1, 2, 3), Unsure((0,), 1, 2, 3)), [
            Unsure((1,), 1, 2, 3), Unsure((0,), 0, 2, 3), Unsure((0,), 1, 0, 3), Unsure((0,), 1, 2, 0), ((0,), 1, 2, 3)])


def places_of(form, path=()):
    """Return the terms of a form by their word places, in the order of reading."""
    found = {}
    for at, row in enumerate(form):
        here = path + (at,)
        for index, term in enumerate(row[2] if row[0] == "plain" else row[1:5]):
            found[(here, index)] = term
        if row[0] == "report":
            found.update(places_of(row[6], here))
    return found


def opposites(fact):
    """Return lists of facts one of which is true exactly if a fact is not."""
    if fact[0] in ("same", "unlike"):
        return [[({"same": "unlike", "unlike": "same"}[fact[0]],) + fact[1:]]]
    if fact[0] == "weekday":
        return [[("weekday", fact[1], w)] for w in range(7) if w != fact[2]]
    x, y, low, high = fact[1:]
    found = [] if low is None else [[("between", x, y, None, low - 1)]]
    return found + ([] if high is None else [[("between", x, y, high + 1, None)]])


class FollowsTest(FactCase):
    def test_exactly_if_the_opposite_clashes(self):
        rng = random.Random(804)
        seen = {}
        for _ in range(1500):
            marks = [D, ("day", 0), ("date", 0), ("date", 3)]
            facts = fitting_facts(rng, 6, marks)
            fact = rng.choice([
                random_day_fact(rng, marks), random_name_fact(rng, PERSONS), random_name_fact(rng, SPOTS)])
            told = follows(facts, fact)
            clash = all(find_clash(Facts(facts.rows + tuple(rows))) is not None for rows in opposites(fact))
            self.assertIs(told, clash, (facts.rows, fact))
            seen[(fact[0], told)] = True
            if told:
                for fit in trials(rng, facts, 3):
                    self.assertTrue(is_true_at(fact, *fit))
        self.assertEqual(len(seen), 8)

    def test_named_edges(self):
        for rows, fact, told in [
                ([], ("same", ("T",), ("T",)), True), ([], ("unlike", ("T",), ("T",)), False),
                ([], ("unlike", ("name", "ann"), ("name", "bob")), True), ([], ("same", ("name", "a"), ("name", "a")), True),
                ([], ("between", D, D, 0, 0), True), ([], ("between", D, ("day", 0), None, None), True),
                ([], ("between", D, D, 1, 0), False), ([], ("weekday", ("date", 9), 2), True),
                ([("unlike", ("T",), ("H",))], ("unlike", ("H",), ("T",)), True),
                ([("unlike", ("T",), ("H",)), ("same", ("H",), ("who", 0))], ("unlike", ("who", 0), ("T",)), True),
                ([("same", ("T",), ("name", "ann"))], ("unlike", ("T",), ("name", "bob")), True),
                ([("same", ("T",), ("name", "ann"))], ("unlike", ("T",), ("H",)), False),
                ([("weekday", D, 2)], ("weekday", D, 2), True), ([("weekday", D, 2)], ("weekday", D, 3), False),
                ([("between", ("date", 0), D, 9, 9)], ("weekday", D, 2), True),
                ([("between", D, ("day", 0), 2, 5)], ("between", ("day", 0), D, -5, -2), True),
                ([("between", D, ("day", 0), 2, 5)], ("between", D, ("day", 0), 1, 6), True),
                ([("between", D, ("day", 0), 2, 5)], ("between", D, ("day", 0), 3, None), False),
                ([("between", D, ("day", 0), 2, 5)], ("between", D, ("day", 0), None, 4), False),
                ([("between", D, ("day", 0), 2, None)], ("between", D, ("day", 0), 2, 10 ** 50), False)]:
            self.assertIs(follows(Facts(rows), fact), told)

    def test_eight_facts(self):
        rows = [("same", ("who", i), ("who", i + 1)) for i in range(8)]
        self.assertTrue(follows(Facts(rows), ("same", ("who", 0), ("who", 8))))
        self.assertFalse(follows(Facts(rows), ("unlike", ("who", 0), ("who", 8))))
        self.assertFalse(follows(Facts(rows), ("unlike", ("who", 0), ("who", 9))))

    def test_errors(self):
        for bad in NO_FACTS:
            self.refused(BadFact(0), follows, NONE, bad)
            self.refused(NoFit((0, 2)), follows, CLASH, bad)


class NeedlessFactsTest(FactCase):
    def test_each_follows_from_all_the_others(self):
        rng = random.Random(805)
        for _ in range(200):
            facts = fitting_facts(rng, 8, [D, ("day", 0), ("date", 0)])
            told = tuple(
                number for number in range(len(facts)) if follows(facts.without_fact(number), facts.rows[number]))
            self.assertEqual(needless_facts(facts), told)

    def test_named_edges(self):
        same = ("same", ("T",), ("H",))
        self.assertEqual(needless_facts(NONE), ())
        self.assertEqual(needless_facts(Facts([same])), ())
        self.assertEqual(needless_facts(Facts([same, same])), (0, 1))
        self.assertEqual(needless_facts(Facts([("same", ("T",), ("T",))])), (0,))
        chain = [same, ("same", ("H",), ("who", 0)), ("same", ("T",), ("who", 0)), ("weekday", D, 2)]
        self.assertEqual(needless_facts(Facts(chain)), (0, 1, 2))
        self.assertEqual(needless_facts(Facts([("weekday", ("date", 8), 1), ("between", D, D, None, 5)])), (0, 1))
        self.refused(NoFit((0, 2)), needless_facts, CLASH)


if __name__ == "__main__":
    unittest.main()
