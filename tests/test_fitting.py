"""[4.5], [4.8]: lots, and fits."""

import itertools
import random
import unittest

from tests.factkit import CLASH, D, MARKS, NONE, PERSONS, SPOTS, FactCase, fitting_facts, random_name_fact
from tests.helper import random_talk
from tests.test_terms import DAY_TERMS, NO_TERMS, PERSON_TERMS, PLACE_TERMS
from whosetomorrow.clashes import find_clash
from whosetomorrow.errors import BadTerm, NoFit
from whosetomorrow.facts import Facts
from whosetomorrow.fitting import a_fit, fit_between
from whosetomorrow.lots import lots_of
from whosetomorrow.sevens import even_sevens, saw_sevens
from whosetomorrow.situations import Situation
from whosetomorrow.terms import value_of

ROOTS = PERSON_TERMS[:2] + PERSON_TERMS[4:]
SPOT_ROOTS = [term for term in PLACE_TERMS if term[0] != "place"]
NO_ROWS = [None, True, 3, "T", {}, {("T",): 1}, ("T"), iter(()), NONE]


def joined(facts, one, other):
    """Tell by spreading out whether a chain of "same" facts joins two terms."""
    reached = {one}
    for _ in range(9):
        for fact in facts:
            if fact[0] == "same" and reached & set(fact[1:]):
                reached |= set(fact[1:])
    return other in reached


class LotsTest(FactCase):
    def test_lots_by_chains_in_their_order(self):
        rng = random.Random(701)
        for _ in range(200):
            facts = fitting_facts(rng, 8)
            terms = [rng.choice(PERSONS + SPOTS) for _ in range(rng.randint(0, 12))]
            lots = lots_of(facts, rng.choice([list, tuple])(terms))
            self.tuples_only(lots)
            once = list(dict.fromkeys(terms))
            self.assertEqual(sorted(term for lot in lots for term in lot), sorted(once))
            self.assertEqual([lot[0] for lot in lots], sorted([lot[0] for lot in lots], key=once.index))
            for lot in lots:
                self.assertEqual(list(lot), sorted(lot, key=once.index))
            for one, other in itertools.combinations(once, 2):
                together = any(one in lot and other in lot for lot in lots)
                self.assertEqual(together, joined(facts, one, other))

    def test_named_edges(self):
        facts = Facts([("same", ("T",), ("who", 3)), ("same", ("name", "ann"), ("who", 3)), ("same", ("Z",), ("where", 0)),
                       ("unlike", ("H",), ("T",))])
        self.assertEqual(lots_of(facts, []), ())
        self.assertEqual(lots_of(facts, [("H",), ("T",), ("Z",), ("name", "ann"), ("T",), ("name", "bob"), ("where", 0)]), (
            (("H",),), (("T",), ("name", "ann")), (("Z",), ("where", 0)), (("name", "bob"),)))
        # A name of a person is no name of a place.
        self.assertEqual(lots_of(NONE, (("name", "ann"), ("place", "ann"))), ((("name", "ann"),), (("place", "ann"),)))
        self.assertEqual(lots_of(Facts([("same", ("T",), ("T",))]), (("T",), ("T",))), ((("T",),),))

    def test_errors(self):
        for thing in NO_ROWS:
            self.refused(BadTerm(), lots_of, NONE, thing)
        for bad in NO_TERMS + DAY_TERMS:
            self.refused(BadTerm(), lots_of, NONE, [("T",), bad])
            self.refused(NoFit((0, 2)), lots_of, CLASH, [bad])
        self.refused(NoFit((0, 2)), lots_of, CLASH, None)


class AFitTest(FactCase):
    def test_one_exactly_if_in_one_lot(self):
        rng = random.Random(702)
        for _ in range(150):
            facts = fitting_facts(rng, 8)
            terms = [rng.choice(PERSONS + SPOTS + [("name", "aaa"), ("name", "aab"), ("place", "aaa")] + DAY_TERMS)
                     for _ in range(rng.randint(0, 4))]
            fit = a_fit(facts, rng.choice([list, tuple])(terms))
            self.check_fit(facts, fit)
            self.check_values_suit(random_talk(rng), fit)
            told = terms + [entry for fact in facts for entry in fact[1:3] if isinstance(entry, tuple)]
            names = [("name", n) for n in {term[1] for term in told if term[0] == "name"}]
            spots = [("place", n) for n in {term[1] for term in told if term[0] == "place"}]
            for group in (ROOTS + names, SPOT_ROOTS + spots):
                found = [value_of(term, *fit) for term in group]
                for (one, first), (other, second) in itertools.combinations(zip(group, found), 2):
                    if first == second or rng.random() < 0.02:
                        self.assertEqual(first == second, joined(facts, one, other), (facts.rows, one, other))
            for fact in facts:
                if fact[0] == "same":
                    self.assertEqual(value_of(fact[1], *fit), value_of(fact[2], *fit))

    def test_without_facts_all_are_unlike(self):
        situation, values = a_fit(NONE)
        persons = [situation.teller, situation.hearer] + [name for row in values for name in row[:2]]
        self.assertEqual(len(set(persons)), 26)
        self.assertEqual(len({situation.place} | {row[3] for row in values}), 13)
        named = a_fit(NONE, [("name", name) for name in persons])
        self.assertFalse(set(persons) & {value_of(root, *named)[1] for root in ROOTS})

    def test_errors(self):
        for thing in NO_ROWS:
            self.refused(BadTerm(), a_fit, NONE, thing)
        for bad in NO_TERMS:
            self.refused(BadTerm(), a_fit, NONE, (("T",), bad))
            self.refused(NoFit((0, 2)), a_fit, CLASH, (bad,))
        self.refused(NoFit((0, 2)), a_fit, CLASH)
        self.assertIsInstance(a_fit(NONE, DAY_TERMS)[0], Situation)


class FitBetweenTest(FactCase):
    def reach(self, facts, one, other):
        """Return the numbers from -40 to 40 that the difference may be, asked for one by one."""
        found = []
        for number in range(-40, 41):
            fit = fit_between(facts, one, other, number, number)
            if fit is not None:
                self.check_fit(facts, fit)
                self.assertEqual(value_of(other, *fit)[1] - value_of(one, *fit)[1], number)
                found.append(number)
        return found

    def test_all_that_is_asked_for(self):
        rng = random.Random(703)
        terms = [("sevens", root, sevens) for root in (D, ("day", 0)) for sevens in (
            even_sevens(0), even_sevens(-4), saw_sevens(3, 0), saw_sevens(5, -9))] + [("date", 2)]
        for _ in range(25):
            facts = fitting_facts(rng, 5, [D, ("day", 0), ("date", 0), ("date", 3)])
            one, other = rng.choice(terms), rng.choice(terms)
            inner = self.reach(facts, one, other)
            for _ in range(12):
                low, high = sorted([rng.randint(-40, 40), rng.randint(-40, 40)])
                told = fit_between(facts, one, other, low, high)
                self.assertEqual(told is not None, any(low <= number <= high for number in inner))
                for bounds in ((low, None), (None, high), (None, None), (low, high)):
                    fit = fit_between(facts, one, other, *bounds)
                    if fit is not None:
                        self.check_fit(facts, fit)
                        apart = value_of(other, *fit)[1] - value_of(one, *fit)[1]
                        self.assertTrue(bounds[0] is None or bounds[0] <= apart)
                        self.assertTrue(bounds[1] is None or apart <= bounds[1])
                    elif bounds == (low, None):
                        self.assertEqual([number for number in inner if number >= low], [])
                    elif bounds == (None, high):
                        self.assertEqual([number for number in inner if number <= high], [])
                    else:
                        self.assertEqual(bounds, (low, high))

    def test_bounds_that_just_fit_and_just_do_not(self):
        today, other = ("sevens", D, even_sevens(0)), ("sevens", ("day", 2), even_sevens(0))
        facts = Facts([("between", D, ("day", 2), 3, 9)])
        for low, high, fits in [
                (9, None, True), (10, None, False), (None, 3, True), (None, 2, False), (9, 3, False), (9, 9, True),
                (3, 3, True), (4, 8, True), (None, None, True), (-10 ** 40, 3, True), (10 ** 40, None, False)]:
            self.assertEqual(fit_between(facts, today, other, low, high) is not None, fits)
        mondays = Facts([("weekday", D, 1), ("weekday", ("day", 2), 3)])
        for low, high, fits in [(2, 2, True), (3, 8, False), (3, 9, True), (-5, -5, True), (-4, 1, False)]:
            self.assertEqual(fit_between(mondays, today, other, low, high) is not None, fits)

    def test_equal_terms_and_dates(self):
        coming = ("sevens", D, saw_sevens(3, 0))
        for term in (coming, ("date", 5)):
            self.assertIsNotNone(fit_between(NONE, term, term, 0, 0))
            self.assertIsNotNone(fit_between(NONE, term, term, None, 3))
            self.assertIsNone(fit_between(NONE, term, term, 1, None))
            self.assertIsNone(fit_between(NONE, term, term, None, -1))
            self.assertIsNone(fit_between(NONE, term, term, 1, 0))
        self.assertIsNotNone(fit_between(NONE, ("date", 5), ("date", 9), 4, 4))
        self.assertIsNone(fit_between(NONE, ("date", 5), ("date", 9), 5, None))
        today = ("sevens", D, even_sevens(0))
        self.assertIsNone(fit_between(NONE, today, coming, 8, None))
        self.assertIsNone(fit_between(NONE, today, coming, None, 0))
        self.assertIsNotNone(fit_between(NONE, today, coming, 7, None))
        # On one day of the week it is exactly 7 days off.
        self.assertEqual(fit_between(NONE, today, coming, 7, 7)[0].day % 7, 3)

    def test_large_numbers(self):
        big = 10 ** 50
        today, other = ("sevens", D, even_sevens(0)), ("sevens", ("day", 11), even_sevens(big))
        fit = fit_between(Facts([("between", ("date", -big), D, 2, None)]), today, other, big + 1, big + 1)
        self.assertEqual(value_of(other, *fit)[1] - value_of(today, *fit)[1], big + 1)

    def test_errors(self):
        today = ("sevens", D, even_sevens(0))
        for bad in NO_TERMS + PERSON_TERMS[:3] + PLACE_TERMS[:2] + [D]:
            self.refused(BadTerm(), fit_between, NONE, bad, today, 0, 1)
            self.refused(BadTerm(), fit_between, NONE, today, bad, 1, 0)
            self.refused(NoFit((0, 2)), fit_between, CLASH, bad, bad, 0, 1)


class ManyFactsTest(FactCase):
    def test_eight_facts_of_all_kinds(self):
        rng = random.Random(704)
        seen = 0
        while seen < 60:
            rows = [random_name_fact(rng, PERSONS + SPOTS) for _ in range(3)]
            rows = [row for row in rows if (row[1] in PERSONS) == (row[2] in PERSONS)]
            while len(rows) < 8:
                low = rng.randint(-9, 9)
                rows.append(rng.choice([
                    ("weekday", rng.choice(MARKS), rng.randint(0, 6)),
                    ("between", rng.choice(MARKS), rng.choice(MARKS), low, rng.choice([None, low + 8])),
                    ("between", rng.choice(MARKS), rng.choice(MARKS), rng.choice([None, low - 8]), low)]))
            facts = Facts(rows)
            if find_clash(facts) is None:
                seen += 1
                self.check_fit(facts, a_fit(facts))


if __name__ == "__main__":
    unittest.main()
