"""Clues: what settles the words of found letters."""

from whosetomorrow.choices import choices_in_order, number_sets
from whosetomorrow.errors import BadClue
from whosetomorrow.found import reading_of, word_cases
from whosetomorrow.talkways import word_at
from whosetomorrow.terms import find_term_kind, is_root, root_of_term, root_value
from whosetomorrow.twofold import fits_apart, know_twice, twin_of
from whosetomorrow.words import is_sequence, kind_of

MOST_CLUES = 4
ANSWER_HEADS = {"person": "name", "place": "place", "date": "date"}


class Unsettled:
    """Two readings with the same answers to all clues, in which a word means unlike things."""

    def __init__(self, one, other):
        self.one = one
        self.other = other

    def __eq__(self, other):
        return isinstance(other, Unsettled) and self.one == other.one and self.other == other.other


def is_clue(thing):
    """Tell whether a thing is a clue."""
    if not isinstance(thing, tuple) or not 1 <= len(thing) <= 2:
        return False
    head = thing[0]
    if len(thing) == 1:
        return head == "tongue"
    if head in ("weekday", "date"):
        return is_root(thing[1])
    return head in ("person", "place") and find_term_kind(thing[1]) == head and root_of_term(thing[1]) is not None


def clue_answer(clue, reading):
    """Return the answer to a clue in a reading."""
    if not is_clue(clue):
        raise BadClue(0)
    if clue[0] == "tongue":
        return reading.tongue
    value = root_value(clue[1], reading.situation, reading.value_rows)
    return value % 7 if clue[0] == "weekday" else (ANSWER_HEADS[clue[0]], value)


def check_clues(clues):
    """Refuse what is no list or tuple of up to four clues."""
    if not is_sequence(clues) or len(clues) > MOST_CLUES:
        raise BadClue(0)
    for index, clue in enumerate(clues):
        if not is_clue(clue):
            raise BadClue(index)


def told_facts(clues):
    """Return the facts that tell that two readings have the same answers to clues, but for weekdays."""
    told = []
    for clue in clues:
        if clue[0] in ("person", "place"):
            told.append(("same", clue[1], twin_of(clue[1])))
        if clue[0] == "date":
            told.append(("between", clue[1], twin_of(clue[1]), 0, 0))
    return told


def weekday_choices(clues):
    """Return rows of facts: for each told weekday those that tell it of both readings, for each of the seven."""
    rows = []
    for clue in clues:
        if clue[0] == "weekday":
            root = clue[1]
            rows.append([(("weekday", root, w), ("weekday", twin_of(root), w)) for w in range(7)])
    return rows


def cases_apart(cases, told):
    """Return the couples of cases (tongue, term) that two readings may have if the tongue is told, or is not."""
    if told:
        return [(case, case) for case in cases]
    return [(case, other) for at, case in enumerate(cases) for other in cases[at:]]


def find_apart(found, cases, kind, clues):
    """Return two readings with the same answers to clues in which a word means unlike things, or None."""
    pairs = cases_apart(cases, ("tongue",) in clues)
    told = told_facts(clues)
    choices = weekday_choices(clues)
    for chosen in choices_in_order(choices):
        known = know_twice(found.facts.rows, told + [fact for couple in chosen for fact in couple])
        if known is None:
            continue
        for (tongue, term), (other_tongue, other_term) in pairs:
            fits = fits_apart(known, term, other_term, kind)
            if fits is not None:
                return Unsettled(reading_of(tongue, fits[0]), reading_of(other_tongue, fits[1]))
    return None


def unsettled_by(found, path, index, clues):
    """Return None if clues settle a word, else two readings with the same answers in which it means unlike things."""
    kind = kind_of(word_at(found.talk, path, index))
    check_clues(clues)
    return find_apart(found, word_cases(found, path, index), kind, tuple(clues))


def least_clues(found, path, index, clues):
    """Return all least sets of numbers of clues that settle a word."""
    kind = kind_of(word_at(found.talk, path, index))
    check_clues(clues)
    cases = word_cases(found, path, index)
    least = []
    for numbers in number_sets(len(clues)):
        within = [all([number in numbers for number in less]) for less in least]
        told = [clues[number] for number in numbers]
        if not any(within) and find_apart(found, cases, kind, told) is None:
            least.append(numbers)
    return tuple(least)
