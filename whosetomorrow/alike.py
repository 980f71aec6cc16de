"""Whether two talks say the same in all situations."""

from whosetomorrow.errors import BadValues
from whosetomorrow.forms import form_of, term_at
from whosetomorrow.strangers import unlike_situation
from whosetomorrow.talkways import check_values, names_in, places_in
from whosetomorrow.terms import root_of_term, value_of
from whosetomorrow.toldrows import are_unlike, first_parting


class Parted:
    """The first place at which two talks differ, and a situation with values that shows it."""

    def __init__(self, path, index, situation, value_rows):
        self.path = path
        self.index = index
        self.situation = situation
        self.value_rows = value_rows

    def __eq__(self, other):
        return (
            isinstance(other, Parted) and self.path == other.path and self.index == other.index
            and self.situation == other.situation and self.value_rows == other.value_rows
        )


def first_unlike(one, other, *, bare=False):
    """Return the first place at which two forms differ, or None."""
    return first_parting(one, other, bare, are_unlike, ())


def forms_of_both(one, other, tongue, other_tongue):
    """Return the forms of two talks; no other tongue stands for the same one."""
    return (form_of(one, tongue), form_of(other, tongue if other_tongue is None else other_tongue))


def moved_root(one, other):
    """Return a root that, moved alone, changes how two unlike terms lie to each other, if there is one."""
    root = root_of_term(one)
    return root_of_term(other) if root is None else root


def parting_situation(one, other, names, places):
    """Return a situation with values in which two unlike terms have unlike values."""
    root = moved_root(one, other)
    # Under one root some rest of the first seven days parts the two; otherwise the terms are one
    # on the day 0 or on the day 7 at the most, as the second root does not move.
    for day in range(8):
        situation, rows = unlike_situation(names, places, root, day)
        if value_of(one, situation, rows) != value_of(other, situation, rows):
            return (situation, rows)
    return None


def find_parted(one, other, tongue, other_tongue, bare):
    """Return None if two talks have equal forms, otherwise where and in which situation they part."""
    form, other_form = forms_of_both(one, other, tongue, other_tongue)
    place = first_unlike(form, other_form, bare=bare)
    if place is None:
        return None
    path, index = place
    names = names_in(one) + names_in(other)
    places = places_in(one) + places_in(other)
    if index is None:
        situation, rows = unlike_situation(names, places, ("D",), 0)
    else:
        term = term_at(form, path, index)
        other_term = term_at(other_form, path, index)
        situation, rows = parting_situation(term, other_term, names, places)
    return Parted(path, index, situation, rows)


def says_same(one, other, tongue, *, other_tongue=None):
    """Return None if two talks say the same in all situations, otherwise where they part."""
    return find_parted(one, other, tongue, other_tongue, False)


def bare_same(one, other, tongue, *, other_tongue=None):
    """Return None if two talks say the same but for the manner, otherwise where they part."""
    return find_parted(one, other, tongue, other_tongue, True)


def parted_fault(one, other, tongue, parted, *, other_tongue=None, bare=False):
    """Return None if a told parting of two talks is right, otherwise what is wrong with it."""
    form, other_form = forms_of_both(one, other, tongue, other_tongue)
    place = first_unlike(form, other_form, bare=bare)
    if place is None or place != (parted.path, parted.index):
        return "place"
    try:
        check_values(one, parted.value_rows)
        check_values(other, parted.value_rows)
    except BadValues:
        return "values"
    if parted.index is None:
        return None
    term = term_at(form, parted.path, parted.index)
    other_term = term_at(other_form, parted.path, parted.index)
    if value_of(term, parted.situation, parted.value_rows) == value_of(
            other_term, parted.situation, parted.value_rows):
        return "same"
    return None
