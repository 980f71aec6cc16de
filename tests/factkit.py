"""What the tests of facts share: random facts, and their fits found by trying."""

import itertools

from tests.helper import Case
from whosetomorrow.clashes import find_clash
from whosetomorrow.facts import Facts, first_untrue
from whosetomorrow.situations import Situation
from whosetomorrow.talkways import check_values
from whosetomorrow.words import is_name, is_whole

D = ("D",)
NONE = Facts([])
CLASH = Facts([("weekday", D, 1), ("weekday", ("date", 3), 3), ("weekday", D, 2)])
MARKS = [D, ("day", 0), ("day", 1), ("date", 0), ("date", 3), ("date", -4)]
PERSONS = [("T",), ("H",), ("who", 0), ("whom", 3), ("name", "ann"), ("name", "bob"), ("name", "cy")]
SPOTS = [("Z",), ("where", 0), ("where", 11), ("place", "rome"), ("place", "ann")]
WINDOW = 60


def day_of(mark, days):
    """Return the day of a mark, None if it is not known."""
    return mark[1] if mark[0] == "date" else days.get(mark)


def holds(fact, days):
    """Tell whether a fact on days is not broken by these days."""
    one = day_of(fact[1], days)
    if fact[0] == "weekday":
        return one is None or one % 7 == fact[2]
    other = day_of(fact[2], days)
    if one is None or other is None:
        return True
    low, high = fact[3:]
    return (low is None or other - one >= low) and (high is None or other - one <= high)


def day_fits(rows, marks, window=WINDOW):
    """Return all days of marks, none far from date 0, that the facts let be; each a dict."""
    rows = [fact for fact in rows if fact[0] in ("between", "weekday")]
    found = [{}]
    if not all(holds(fact, {}) for fact in rows):
        return []
    for mark in marks:
        if mark[0] == "date":
            continue
        found = [
            {**days, mark: day} for days in found for day in range(-window, window + 1)
            if all(holds(fact, {**days, mark: day}) for fact in rows)]
    return found


def name_fits(rows, roots, named, names):
    """Return all names of roots that the facts let be; named is the head of a name."""
    rows = [fact for fact in rows if fact[0] in ("same", "unlike")]
    found = []
    for chosen in itertools.product(names, repeat=len(roots)):
        told = dict(zip(roots, chosen))
        fine = True
        for fact in rows:
            one, other = [term[1] if term[0] == named else told.get(term) for term in fact[1:3]]
            if one is not None and other is not None and (one == other) != (fact[0] == "same"):
                fine = False
        if fine:
            found.append(told)
    return found


def random_day_fact(rng, marks=MARKS, most=9):
    """Return a random fact on days."""
    if rng.random() < 0.35:
        return ("weekday", rng.choice(marks), rng.randint(0, 6))
    low = rng.choice([None, rng.randint(-most, most), rng.randint(-most, most)])
    high = rng.choice([None, rng.randint(-most, most), (low or 0) + rng.randint(0, 6), (low or 0) + rng.randint(0, 6)])
    return ("between", rng.choice(marks), rng.choice(marks), low, high)


def random_name_fact(rng, terms):
    """Return a random fact on persons or places."""
    return (rng.choice(["same", "same", "unlike"]), rng.choice(terms), rng.choice(terms))


def random_facts(rng, most=5, marks=MARKS):
    """Return random facts of all kinds."""
    rows = []
    for _ in range(rng.randint(0, most)):
        kind = rng.random()
        if kind < 0.4:
            rows.append(random_day_fact(rng, marks))
        elif kind < 0.8:
            rows.append(random_name_fact(rng, PERSONS))
        else:
            rows.append(random_name_fact(rng, SPOTS))
    return Facts(rows)


def fitting_facts(rng, most=5, marks=MARKS):
    """Return random facts that have a fit."""
    while True:
        facts = random_facts(rng, most, marks)
        if find_clash(facts) is None:
            return facts


class FactCase(Case):
    """A test case that can tell whether a fit is one."""

    def check_fit(self, facts, fit):
        """Check that a pair is a fit with full values."""
        situation, values = fit
        self.assertIsInstance(fit, tuple)
        self.assertIsInstance(situation, Situation)
        self.tuples_only(values)
        self.assertEqual(len(values), 12)
        for who, whom, day, place in values:
            self.assertTrue(is_name(who) and is_name(whom) and is_whole(day) and is_name(place))
        self.assertIsNone(first_untrue(facts, situation, values))

    def check_values_suit(self, talk, fit):
        """Check that the values of a fit suit a talk."""
        check_values(talk, fit[1])
