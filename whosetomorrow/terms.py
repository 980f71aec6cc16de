"""Terms: what words mean in any situation."""

from whosetomorrow.errors import BadTerm, BadValues
from whosetomorrow.levels import day_ahead, day_behind
from whosetomorrow.sevens import find_shape, sevens_led
from whosetomorrow.talkways import find_value
from whosetomorrow.words import find_kind, is_index

BARE_KINDS = {"T": "person", "H": "person", "Z": "place"}
PART_KINDS = {"who": "person", "whom": "person", "where": "place"}
PART_PLACES = {"who": 0, "whom": 1, "day": 2, "where": 3}


def is_root(thing):
    """Tell whether a thing is the root of sevens."""
    if not isinstance(thing, tuple) or not 1 <= len(thing) <= 2 or not isinstance(thing[0], str):
        return False
    if len(thing) == 1:
        return thing[0] == "D"
    return thing[0] == "day" and is_index(thing[1], 12)


def find_term_kind(thing):
    """Return "person", "day" or "place" for a term, None for any other thing."""
    if not isinstance(thing, tuple) or not 1 <= len(thing) <= 3 or not isinstance(thing[0], str):
        return None
    head = thing[0]
    if len(thing) == 1:
        return BARE_KINDS.get(head)
    if len(thing) == 3:
        fits = head == "sevens" and is_root(thing[1]) and find_shape(thing[2]) is not None
        return "day" if fits else None
    if head in PART_KINDS:
        return PART_KINDS[head] if is_index(thing[1], 12) else None
    return find_kind(thing) if head in ("name", "date", "place") else None


def check_term(term):
    """Return the kind of a term."""
    kind = find_term_kind(term)
    if kind is None:
        raise BadTerm()
    return kind


def check_day(term):
    """Refuse what is no day term."""
    if find_term_kind(term) != "day":
        raise BadTerm()


def day_plus(term, k):
    """Return the term of the day k days behind."""
    check_day(term)
    if term[0] == "date":
        return ("date", term[1] + k)
    return ("sevens", term[1], tuple([offset + k for offset in term[2]]))


def day_coming(term, w):
    """Return the term of the first day with weekday w strictly behind."""
    check_day(term)
    if term[0] == "date":
        return ("date", day_behind(term[1], w))
    return ("sevens", term[1], sevens_led(term[2], ("coming", w)))


def day_last(term, w):
    """Return the term of the last day with weekday w strictly ahead."""
    check_day(term)
    if term[0] == "date":
        return ("date", day_ahead(term[1], w))
    return ("sevens", term[1], sevens_led(term[2], ("last", w)))


def weekday_of_term(term):
    """Return the weekday that a day has in all situations, or None."""
    check_day(term)
    if term[0] == "date":
        return term[1] % 7
    shape = find_shape(term[2])
    return shape[1] if shape[0] == "saw" else None


def root_of_term(term):
    """Return the part of the situation or of the values that a term looks to, or None."""
    check_term(term)
    if term[0] == "sevens":
        return term[1]
    return None if term[0] in ("name", "place", "date") else term


def unknown_number(term):
    """Return the number of the report of whose unknown part a term is, None if it looks to none."""
    root = root_of_term(term)
    return None if root is None or len(root) == 1 else root[1]


def root_value(root, situation, values):
    """Return the name or the day that a root is in a situation with values."""
    head = root[0]
    if head == "T":
        return situation.teller
    if head == "H":
        return situation.hearer
    if head == "D":
        return situation.day
    if head == "Z":
        return situation.place
    value = find_value(values, root[1], PART_PLACES[head])
    if value is None:
        raise BadValues(root[1])
    return value


def value_of(term, situation, values=()):
    """Return the meaning of a term in a situation with values."""
    kind = check_term(term)
    root = root_of_term(term)
    if root is None:
        return term
    value = root_value(root, situation, values)
    if kind == "day":
        return ("date", value + term[2][value % 7])
    return ("name", value) if kind == "person" else ("place", value)
