"""Origins: in which situations a first talk says what is heard within a report."""

from whosetomorrow.errors import BadOrigin
from whosetomorrow.forms import form_of
from whosetomorrow.sevens import even_sevens, saw_sevens, shape_of_sevens
from whosetomorrow.talkways import report_number
from whosetomorrow.terms import check_day, day_plus, find_term_kind, root_of_term, unknown_number
from whosetomorrow.toldrows import first_parting, told_within
from whosetomorrow.words import is_sequence

ORIGIN_KINDS = ("person", "person", "day", "place")
OUTER_PLACES = {"T": 0, "H": 1, "D": 2, "Z": 3}


class Origins:
    """The terms of which each choice is an origin; None stands for all terms."""

    def __init__(self, tellers, hearers, days, places):
        self.tellers = tellers
        self.hearers = hearers
        self.days = days
        self.places = places

    def __eq__(self, other):
        return (
            isinstance(other, Origins) and self.tellers == other.tellers and self.hearers == other.hearers
            and self.days == other.days and self.places == other.places
        )


def days_ahead_of_saw(saw, term):
    """Return the day terms from which a saw ("saw", w, m) leads to a day term."""
    _, weekday, ahead = saw
    if term[0] == "date":
        days = [("date", term[1] - ahead - past) for past in range(7, 0, -1)]
        return tuple(days) if term[1] % 7 == weekday else ()
    root = term[1]
    shape = shape_of_sevens(term[2])
    if shape[0] == "even" or shape[1] != weekday:
        return ()
    more = shape[2] - ahead
    saws = [saw_sevens((weekday - ahead - past) % 7, more - past) for past in range(7, 0, -1)]
    return tuple([("sevens", root, sevens) for sevens in [even_sevens(more)] + saws])


def days_leading_to(sevens, term):
    """Return all day terms from which sevens lead to a day term."""
    shape = shape_of_sevens(sevens)
    check_day(term)
    if shape[0] == "even":
        return (day_plus(term, -shape[1]),)
    return days_ahead_of_saw(shape, term)


def later_part(term, more):
    """Return the term, which looks to no outer part, with the numbers of reports raised by so many."""
    root = root_of_term(term)
    if root is None:
        return term
    later = (root[0], root[1] + more)
    return ("sevens", later, term[2]) if term[0] == "sevens" else later


def terms_leading_to(own, told):
    """Return the terms of the outer part that a term looks to with which it is another term."""
    return days_leading_to(own[2], told) if own[0] == "sevens" else (told,)


def outer_place(term):
    """Return the place in an origin of the outer part that a term looks to, None if it looks to none."""
    root = root_of_term(term)
    return None if root is None else OUTER_PLACES.get(root[0])


class Matching:
    """Matches the terms of a first talk with those within a report of this number."""

    def __init__(self, number):
        self.number = number
        self.parts = [None, None, None, None]

    def is_unlike(self, own, told):
        """Tell whether a term of the first talk is never the term within the report; note what lets it be so."""
        place = outer_place(own)
        if place is None:
            return later_part(own, self.number + 1) != told
        if find_term_kind(own) != find_term_kind(told):
            return True
        found = [term for term in terms_leading_to(own, told) if self.may_stand(term)]
        if self.parts[place] is not None:
            found = [term for term in self.parts[place] if term in found]
        self.parts[place] = tuple(found)
        return len(found) == 0

    def may_stand(self, term):
        """Tell whether a term may stand in an origin."""
        number = unknown_number(term)
        return number is None or number <= self.number


def origins_of(talk, path, first, tongue):
    """Return all situations in which a first talk says what is heard within a report, None if there is none."""
    matching = Matching(report_number(talk, path))
    within = told_within(form_of(talk, tongue), path)
    unlike = first_parting(
        form_of(first, tongue), within, False, lambda own, told: matching.is_unlike(own, told), ())
    if unlike is not None:
        return None
    tellers, hearers, days, places = matching.parts
    return Origins(tellers, hearers, days, places)


def check_origin(origin, number):
    """Refuse what are no four terms of an origin of the report with this number."""
    if not is_sequence(origin) or len(origin) != 4:
        raise BadOrigin(0)
    for index, term in enumerate(origin):
        if find_term_kind(term) != ORIGIN_KINDS[index]:
            raise BadOrigin(index)
        part = unknown_number(term)
        if part is not None and part > number:
            raise BadOrigin(index)


def is_origin(talk, path, first, tongue, origin):
    """Tell whether in these four terms a first talk says what is heard within a report."""
    check_origin(origin, report_number(talk, path))
    found = origins_of(talk, path, first, tongue)
    if found is None:
        return False
    parts = (found.tellers, found.hearers, found.days, found.places)
    return all([part is None or term in part for part, term in zip(parts, origin)])
