"""Wishes: what is to hold in all readings of a found letter."""

from whosetomorrow.changes import place_fault
from whosetomorrow.clues import unsettled_by
from whosetomorrow.errors import BadWish
from whosetomorrow.forms import form_of
from whosetomorrow.found import (
    Both, Never, Reading, a_reading, cases_of, find_reading, reading_fits, reading_of, word_cases,
)
from whosetomorrow.hearing import hear_talk, meaning_at
from whosetomorrow.promises import is_promise, promise_case
from whosetomorrow.sure import find_unsure
from whosetomorrow.talks import Plain, Talk
from whosetomorrow.talkways import row_at, unknown_parts, word_at
from whosetomorrow.terms import find_term_kind, unknown_number, value_of
from whosetomorrow.words import is_index, is_sequence, kind_of

LENGTHS = {"means": 4, "safe": 1, "same as": 2, "sure": 3, "promise": 2}
MOST_WISHES = 4


class Miss:
    """A wish that does not hold, and readings that show it."""

    def __init__(self, wish, readings):
        self.wish = wish
        self.readings = readings

    def __eq__(self, other):
        return isinstance(other, Miss) and self.wish == other.wish and self.readings == other.readings


def has_wish_shape(wish):
    """Tell whether a thing has the first word and the length of a wish."""
    if not is_sequence(wish) or len(wish) == 0 or not isinstance(wish[0], str):
        return False
    return wish[0] in LENGTHS and len(wish) == LENGTHS[wish[0]]


def term_fault(talk, path, index, term):
    """Return "term" if a thing is no term for a word place, or one of an unknown part, otherwise None."""
    if find_term_kind(term) != kind_of(word_at(talk, path, index)) or unknown_number(term) is not None:
        return "term"
    return None


def promise_fault(talk, path):
    """Return "path" if there is no plain saying at a path, otherwise None."""
    fault = place_fault(talk, path, 0)
    if fault == "path":
        return fault
    return None if isinstance(row_at(talk, path), Plain) else "path"


def wish_fault(found, wish):
    """Return the first word that applies to a wish of a letter, or None."""
    if not has_wish_shape(wish):
        return "wish"
    head = wish[0]
    if head == "same as":
        return None if isinstance(wish[1], Talk) and len(unknown_parts(wish[1])) == 0 else "talk"
    if head == "promise":
        return promise_fault(found.talk, wish[1])
    if head == "safe":
        return None
    fault = place_fault(found.talk, wish[1], wish[2])
    if fault is None and head == "means":
        return term_fault(found.talk, wish[1], wish[2], wish[3])
    return fault


def check_wishes(found, wishes):
    """Refuse what are no wishes of a letter."""
    if not is_sequence(wishes) or not 1 <= len(wishes) <= MOST_WISHES:
        raise BadWish(0, "sequence")
    for index, wish in enumerate(wishes):
        fault = wish_fault(found, wish)
        if fault is not None:
            raise BadWish(index, fault)


def missed_meaning(found, path, index, term):
    """Return readings in which a word does not mean what a term means, or None."""
    reading = find_reading(word_cases(found, path, index), lambda own: found.known.parting_fit(own, term))
    return None if reading is None else (reading,)


def missed_safety(found):
    """Return two readings, unlike in the tongue alone, in which a letter is heard unlike, or None."""
    cases = cases_of(found, lambda tongue: form_of(found.talk, tongue))
    tongue, form = cases[0]
    for other, other_form in cases:
        unsure = find_unsure(found.known, form, other_form, False)
        if unsure is not None:
            return (reading_of(tongue, unsure[2]), reading_of(other, unsure[2]))
    return None


def missed_sameness(found, talk):
    """Return readings in which a letter is heard unlike a talk, or None."""
    for tongue in found.tongues:
        unsure = find_unsure(found.known, form_of(found.talk, tongue), form_of(talk, tongue), False)
        if unsure is not None:
            return (reading_of(tongue, unsure[2]),)
    return None


def missed_surety(found, path, index):
    """Return two readings in which a word means unlike things, or None."""
    unsettled = unsettled_by(found, path, index, ())
    return None if unsettled is None else (unsettled.one, unsettled.other)


def missed_promise(found, path):
    """Return readings in which a plain saying is no promise, or None."""
    case = promise_case(found, path)
    if isinstance(case, Both):
        return (case.no,)
    return (a_reading(found),) if isinstance(case, Never) else None


def readings_missing(found, wish):
    """Return readings that show that a wish does not hold, or None."""
    head = wish[0]
    if head == "means":
        return missed_meaning(found, wish[1], wish[2], wish[3])
    if head == "safe":
        return missed_safety(found)
    if head == "same as":
        return missed_sameness(found, wish[1])
    if head == "sure":
        return missed_surety(found, wish[1], wish[2])
    return missed_promise(found, wish[1])


def find_miss(found, wishes):
    """Return None if all wishes hold, otherwise one that does not, with readings that show it."""
    check_wishes(found, wishes)
    for number, wish in enumerate(wishes):
        readings = readings_missing(found, wish)
        if readings is not None:
            return Miss(number, readings)
    return None


def heard_in(talk, reading):
    """Return what is heard of a talk in a reading."""
    return hear_talk(talk, reading.situation, reading.tongue, reading.value_rows)


def meant_in(found, path, index, reading):
    """Return what a word of a letter means in a reading."""
    return meaning_at(found.talk, path, index, reading.situation, reading.tongue, reading.value_rows)


def do_show(found, wish, readings):
    """Tell whether readings show that a wish does not hold."""
    head = wish[0]
    one = readings[0]
    if head == "means":
        return meant_in(found, wish[1], wish[2], one) != value_of(wish[3], one.situation, one.value_rows)
    if head == "safe":
        return heard_in(found.talk, one) != heard_in(found.talk, readings[1])
    if head == "same as":
        return heard_in(found.talk, one) != heard_in(wish[1], one)
    if head == "sure":
        return meant_in(found, wish[1], wish[2], one) != meant_in(found, wish[1], wish[2], readings[1])
    return not is_promise(found.talk, wish[1], one)


def are_readings(found, wish, readings):
    """Tell whether things are as many readings as a wish asks for, which all fit, for "safe" in one situation."""
    count = 2 if wish[0] in ("safe", "sure") else 1
    if not isinstance(readings, tuple) or len(readings) != count:
        return False
    if not all([isinstance(reading, Reading) and reading_fits(found, reading) for reading in readings]):
        return False
    one, other = readings[0], readings[-1]
    return wish[0] != "safe" or (one.situation == other.situation and one.value_rows == other.value_rows)


def miss_fault(found, wishes, miss):
    """Return None if a miss is right, otherwise what is wrong with it."""
    check_wishes(found, wishes)
    if not is_index(miss.wish, len(wishes)):
        return "wish"
    wish = wishes[miss.wish]
    if not are_readings(found, wish, miss.readings):
        return "readings"
    return None if do_show(found, wish, miss.readings) else "holds"
