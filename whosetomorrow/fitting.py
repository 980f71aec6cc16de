"""Fits: situations with values in which all facts are true."""

from whosetomorrow.knowing import know
from whosetomorrow.lots import check_terms
from whosetomorrow.terms import check_day


def a_fit(facts, terms=()):
    """Return a fit in which persons, and places, are one exactly if they are in one lot."""
    known = know(facts)
    check_terms(terms, ("person", "day", "place"))
    return known.any_fit(terms)


def fit_between(facts, one, other, low, high):
    """Return a fit in which day term other minus day term one is at least low and at most high, or None."""
    known = know(facts)
    check_day(one)
    check_day(other)
    return known.fit_within(one, other, low, high)
