"""Levels of terms: what words mean where they stand, in any situation."""

from whosetomorrow.levels import NOTHING, SLOTS, inner_level, slot_entry, slot_of
from whosetomorrow.sevens import even_sevens
from whosetomorrow.talkways import report_at, report_number
from whosetomorrow.terms import check_term, day_coming, day_last, day_plus, weekday_of_term
from whosetomorrow.toldrows import level_around, said_parts
from whosetomorrow.words import find_kind, is_sequence, is_unknown

PART_HEADS = ("who", "whom", "day", "where")


def outer_terms():
    """Return the outermost level of terms."""
    return (("T",), ("H",), ("sevens", ("D",), even_sevens(0)), ("Z",)) + NOTHING


def term_said(level, word):
    """Return the term of a word at a level of terms."""
    entry = slot_entry(level, word)
    if entry is None:
        return word
    if find_kind(word) != "day":
        return entry
    head, number = word
    if head in ("coming", "then coming"):
        return day_coming(entry, number)
    if head in ("last", "then last"):
        return day_last(entry, number)
    return day_plus(entry, number)


def term_or_none(level, word):
    """Return the term of a known word at a level of terms, None if the word means nothing there."""
    slot = slot_of(word)
    if slot is not None and level[slot] is None:
        return None
    return term_said(level, word)


def unknown_term(number, index):
    """Return the term of an unknown part of the report with this number."""
    root = (PART_HEADS[index], number)
    return ("sevens", root, even_sevens(0)) if index == 2 else root


def term_or_unknown(level, word, number, index):
    """Return the term of a word at a level; an unknown one is this part of this report."""
    return unknown_term(number, index) if is_unknown(word) else term_said(level, word)


def inner_terms(level, report, number, tongue):
    """Return the level of terms within a report with this number that stands at this level."""
    own = said_parts(report, level, number, term_or_unknown)
    return inner_level(level, own, report.manner, tongue)


def terms_at(talk, path, tongue):
    """Return the level of terms at which the row at a path stands."""
    return level_around(talk, path, outer_terms(), tongue, term_or_unknown)


def terms_within(talk, path, tongue):
    """Return the level of terms within the report at a path, the outermost one for an empty path."""
    if is_sequence(path) and len(path) == 0:
        return outer_terms()
    report = report_at(talk, path)
    return inner_terms(terms_at(talk, path, tongue), report, report_number(talk, path), tongue)


def bare_words_alike(level, term, heads):
    """Return the words among these bare ones that have a term at a level."""
    return [(head,) for head in heads if level[SLOTS.index(head)] == term]


def counted_word(level, term, head):
    """Return in a list the word that counts days from the day of a slot and has a term, if there is one."""
    entry = level[SLOTS.index(head)]
    if entry is None or entry[0] != term[0]:
        return []
    if entry[0] == "date":
        k = term[1] - entry[1]
    else:
        k = term[2][0] - entry[2][0]
    return [(head, k)] if -30 <= k <= 30 and day_plus(entry, k) == term else []


def weekday_words(level, term):
    """Return the words with weekdays that have a day term at a level."""
    weekday = weekday_of_term(term)
    if weekday is None:
        return []
    words = [(head, weekday) for head in ("coming", "last", "then coming", "then last")]
    return [word for word in words if level[slot_of(word)] is not None and term_said(level, word) == term]


def day_words_alike(level, term):
    """Return all known words that have just this day term at a level."""
    counted = counted_word(level, term, "today") + counted_word(level, term, "that day")
    return counted + weekday_words(level, term)


def words_alike(level, term):
    """Return all known words that have just this term at a level."""
    kind = check_term(term)
    if kind == "person":
        words = bare_words_alike(level, term, ("I", "you", "self", "told"))
    elif kind == "day":
        words = day_words_alike(level, term)
    else:
        words = bare_words_alike(level, term, ("here", "there"))
    if term[0] in ("name", "date", "place"):
        words.append(term)
    return tuple(words)
