"""Levels: what the words mean where they stand."""

from whosetomorrow.errors import BadWord, MeansNothing
from whosetomorrow.words import check_word, find_kind, is_unknown

SLOTS = ("I", "you", "today", "here", "self", "told", "that day", "there")
WORD_SLOTS = {
    "I": 0, "you": 1, "today": 2, "coming": 2, "last": 2, "here": 3,
    "self": 4, "told": 5, "that day": 6, "then coming": 6, "then last": 6, "there": 7,
}
NOTHING = (None, None, None, None)


def outer_level(situation):
    """Return the outermost level of a situation."""
    own = (
        ("name", situation.teller), ("name", situation.hearer),
        ("date", situation.day), ("place", situation.place),
    )
    return own + NOTHING


def inner_level(level, own, manner, tongue):
    """Return the level within a report whose own words mean these four things at this level."""
    if manner == "own":
        return tuple(own) + NOTHING
    shown = [own[slot] if tongue.shifts[slot] else level[slot] for slot in range(4)]
    return tuple(shown) + tuple(own)


def slot_of(word):
    """Return the number of the slot that a word looks to, None if it looks to none."""
    return WORD_SLOTS.get(check_word(word)[0])


def day_behind(day, weekday):
    """Return the first day with a weekday that is later than a day."""
    return day + 1 + (weekday - day - 1) % 7


def day_ahead(day, weekday):
    """Return the last day with a weekday that is earlier than a day."""
    return day - 1 - (day - weekday - 1) % 7


def day_from(day, word):
    """Return the day that a day word means if it is counted from this day."""
    if find_kind(word) != "day" or is_unknown(word):
        raise BadWord()
    head, entry = word
    if head == "date":
        return entry
    if head in ("coming", "then coming"):
        return day_behind(day, entry)
    if head in ("last", "then last"):
        return day_ahead(day, entry)
    return day + entry


def read_from(meaning, word):
    """Return what a word with a slot means if its slot bears this meaning."""
    if find_kind(word) == "day":
        return ("date", day_from(meaning[1], word))
    return meaning


def slot_entry(level, word):
    """Return what the slot of a known word bears at a level, None if the word has no slot."""
    slot = slot_of(word)
    if is_unknown(word):
        raise MeansNothing(word)
    if slot is None:
        return None
    if level[slot] is None:
        raise MeansNothing(word)
    return level[slot]


def said_at(level, word):
    """Return the meaning of a word at a level of meanings."""
    entry = slot_entry(level, word)
    if entry is None:
        return word
    return read_from(entry, word)
