"""What facts make sure of terms, and the fits that they have."""

from whosetomorrow.clashes import refuse_clash, rows_clash
from whosetomorrow.daybounds import DayBounds
from whosetomorrow.dayposts import ZERO
from whosetomorrow.joins import is_named, lot_leaders
from whosetomorrow.sevens import even_sevens
from whosetomorrow.situations import Situation
from whosetomorrow.strangers import fresh_names
from whosetomorrow.terms import check_term

REPORTS = 12


def person_roots():
    """Return the terms of all persons without a name."""
    roots = [("T",), ("H",)]
    for number in range(REPORTS):
        roots.extend([("who", number), ("whom", number)])
    return roots


def place_roots():
    """Return the terms of all places without a name."""
    return [("Z",)] + [("where", number) for number in range(REPORTS)]


def day_parts(term):
    """Return the post of a day term and its offsets from there; a date counts from date 0."""
    if term[0] == "date":
        return (ZERO, even_sevens(term[1]))
    return (term[1], term[2])


def unlike_number(low, high, remainder, barred):
    """Return a number with a remainder by 7 from low to high (both have it, or are None), but not the barred one.

    None is returned if there is no other one.
    """
    if low is not None and low != barred:
        return low
    if high is not None and high != barred:
        return high
    if low is not None and high is not None:
        return None
    if low is None and high is None:
        return remainder + 7 if remainder == barred else remainder
    return barred - 7 if low is None else barred + 7


def number_within(low, high, remainder, least, most):
    """Return a number with a remainder by 7 that keeps all four bounds, or None; None is no bound."""
    lows = [bound for bound in (low, least) if bound is not None]
    highs = [bound for bound in (high, most) if bound is not None]
    if lows:
        bottom = max(lows)
        number = bottom + (remainder - bottom) % 7
        return number if not highs or number <= min(highs) else None
    if highs:
        top = min(highs)
        return top - (top - remainder) % 7
    return remainder


def fit_from(persons, spots, days):
    """Return the fit with these names of all roots of persons and places, and days of roots; other days are 0."""
    situation = Situation(persons[("T",)], persons[("H",)], days.get(("D",), 0), spots[("Z",)])
    rows = [
        (persons[("who", number)], persons[("whom", number)], days.get(("day", number), 0), spots[("where", number)])
        for number in range(REPORTS)
    ]
    return (situation, tuple(rows))


class Known:
    """What facts that have a fit make sure."""

    def __init__(self, rows):
        self.rows = rows
        self.leaders = lot_leaders(rows)
        self.bounds = DayBounds(rows)

    def leader(self, term):
        """Return the term that stands for the lot of a term of a person or a place."""
        return self.leaders.get(term, term)

    def name_for(self, term):
        """Return the name that a term of a person or a place is in every fit, None if there is none."""
        if is_named(term):
            return term
        for fact in self.rows:
            for entry in fact[1:3]:
                if fact[0] == "same" and is_named(entry) and self.leader(entry) == self.leader(term):
                    return entry
        return None

    def named_roots(self, head, roots, terms):
        """Return for each of these roots a name: one for each lot, unlike all names of facts and terms."""
        named = {}
        taken = [term[1] for term in terms if term[0] == head]
        for fact in self.rows:
            for entry in fact[1:3]:
                if fact[0] in ("same", "unlike") and entry[0] == head:
                    taken.append(entry[1])
                    named[self.leader(entry)] = entry[1]
        fresh = fresh_names(taken, len(roots))
        found = {}
        for at, root in enumerate(roots):
            found[root] = named.setdefault(self.leader(root), fresh[at])
        return found

    def fit_on(self, days, terms):
        """Return the fit with these days of posts in which only terms of one lot, of these too, have one name."""
        persons = self.named_roots("name", person_roots(), terms)
        spots = self.named_roots("place", place_roots(), terms)
        return fit_from(persons, spots, days)

    def any_fit(self, terms):
        """Return a fit in which only terms of one lot, of these too, have one name."""
        return self.fit_on(self.bounds.days_with(ZERO, ZERO, 0, 0, 0), terms)

    def fit_apart(self, one, other, case):
        """Return the fit of a case (rest, other rest, difference) of two posts."""
        rest, other_rest, apart = case
        return self.fit_on(self.bounds.days_with(one, other, rest, other_rest, apart), ())

    def day_parting(self, one, other):
        """Return a case of the posts of two day terms in which the days are unlike, None if they are sure to be one."""
        post, offsets = day_parts(one)
        other_post, other_offsets = day_parts(other)
        for rest, other_rest, low, high in self.bounds.cases(post, other_post):
            barred = offsets[rest] - other_offsets[other_rest]
            apart = unlike_number(low, high, other_rest - rest, barred)
            if apart is not None:
                return (rest, other_rest, apart)
        return None

    def is_sure(self, one, other):
        """Tell whether two terms have one meaning in every fit."""
        if one == other:
            return True
        kind = check_term(one)
        if kind != check_term(other):
            return False
        if kind == "day":
            return self.day_parting(one, other) is None
        return self.leader(one) == self.leader(other)

    def parting_fit(self, one, other):
        """Return None if two terms have one meaning in every fit, otherwise a fit in which they have not."""
        if self.is_sure(one, other):
            return None
        if check_term(one) == "day" and check_term(other) == "day":
            case = self.day_parting(one, other)
            return self.fit_apart(day_parts(one)[0], day_parts(other)[0], case)
        return self.any_fit((one, other))

    def fit_within(self, one, other, low, high):
        """Return a fit in which one day term is at least low and at most high days ahead of another, or None."""
        post, offsets = day_parts(one)
        other_post, other_offsets = day_parts(other)
        for rest, other_rest, least, most in self.bounds.cases(post, other_post):
            more = other_offsets[other_rest] - offsets[rest]
            floor = None if low is None else low - more
            ceiling = None if high is None else high - more
            apart = number_within(floor, ceiling, other_rest - rest, least, most)
            if apart is not None:
                return self.fit_apart(post, other_post, (rest, other_rest, apart))
        return None


def know(facts):
    """Return what the facts make sure; facts that clash are refused."""
    refuse_clash(facts)
    return Known(facts.rows)


def know_more(rows, more):
    """Return what facts and more facts make sure together, None if they clash; they may be any number."""
    together = tuple(rows) + tuple(more)
    return None if rows_clash(together) else Known(together)
