"""Facts written twice, the second time with other roots: two fits side by side."""

from whosetomorrow.dayposts import ZERO
from whosetomorrow.knowing import day_parts, fit_from, know_more, person_roots, place_roots
from whosetomorrow.terms import root_of_term


def twin_of(root):
    """Return the root that stands for a root in the second fit."""
    return ("twin", root)


def twin_term(term):
    """Return the term that stands for a term in the second fit."""
    root = root_of_term(term)
    if root is None:
        return term
    return ("sevens", twin_of(root), term[2]) if term[0] == "sevens" else twin_of(root)


def twin_mark(mark):
    """Return the day mark that stands for a day mark in the second fit."""
    return mark if mark[0] == "date" else twin_of(mark)


def twin_fact(fact):
    """Return the fact that tells of the second fit what a fact tells of the first one."""
    head = fact[0]
    if head == "weekday":
        return (head, twin_mark(fact[1]), fact[2])
    if head == "between":
        return (head, twin_mark(fact[1]), twin_mark(fact[2]), fact[3], fact[4])
    return (head, twin_term(fact[1]), twin_term(fact[2]))


def know_twice(rows, more):
    """Return what facts of both fits and facts between them make sure, None if they clash."""
    return know_more(rows, [twin_fact(fact) for fact in rows] + more)


def named_twice(known, head, roots, terms):
    """Return for each of these roots its name in the first fit, and its name in the second one."""
    names = known.named_roots(head, roots + [twin_of(root) for root in roots], terms)
    return (names, {root: names[twin_of(root)] for root in roots})


def two_fits(known, days, terms):
    """Return both fits with these days, in which only terms of one lot, of these too, have one name."""
    persons, twin_persons = named_twice(known, "name", person_roots(), terms)
    spots, twin_spots = named_twice(known, "place", place_roots(), terms)
    twin_days = {root[1]: days[root] for root in days if root[0] == "twin"}
    return (fit_from(persons, spots, days), fit_from(twin_persons, twin_spots, twin_days))


def fits_apart(known, one, other, kind):
    """Return two fits such that a term of the first is not a term of the second one, None if there are none."""
    twin = twin_term(other)
    if kind != "day":
        if known.leader(one) == known.leader(twin):
            return None
        return two_fits(known, known.bounds.days_with(ZERO, ZERO, 0, 0, 0), (one, twin))
    case = known.day_parting(one, twin)
    if case is None:
        return None
    rest, other_rest, apart = case
    post = day_parts(one)[0]
    twin_post = day_parts(twin)[0]
    return two_fits(known, known.bounds.days_with(post, twin_post, rest, other_rest, apart), ())
