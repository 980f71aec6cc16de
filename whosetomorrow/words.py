"""Words: what is one, and of which kind it is."""

from whosetomorrow.errors import BadWord

LETTERS = "abcdefghijklmnopqrstuvwxyz"

BARE_KINDS = {
    "I": "person", "you": "person", "self": "person", "told": "person", "somebody": "person",
    "one day": "day",
    "here": "place", "there": "place", "somewhere": "place",
}
HEAD_KINDS = {
    "name": "person",
    "today": "day", "that day": "day", "date": "day",
    "coming": "day", "last": "day", "then coming": "day", "then last": "day",
    "place": "place",
}


def is_whole(thing):
    """Tell whether a thing is a whole number; a bool is none."""
    return isinstance(thing, int) and not isinstance(thing, bool)


def is_index(thing, length):
    """Tell whether a thing is the place of an entry in a row of this length."""
    return is_whole(thing) and 0 <= thing < length


def is_weekday(thing):
    """Tell whether a thing is a whole number from 0 to 6."""
    return is_index(thing, 7)


def is_name(thing):
    """Tell whether a thing is a string of 1 to 8 letters a to z."""
    if not isinstance(thing, str) or not 1 <= len(thing) <= 8:
        return False
    return all([sign in LETTERS for sign in thing])


def is_sequence(thing):
    """Tell whether a thing is a list or a tuple."""
    return isinstance(thing, (list, tuple))


def fits_head(head, entry):
    """Tell whether the second entry of a word may stand behind this first one."""
    if head in ("name", "place"):
        return is_name(entry)
    if head == "date":
        return is_whole(entry)
    if head in ("today", "that day"):
        return is_whole(entry) and -30 <= entry <= 30
    if head in ("coming", "last", "then coming", "then last"):
        return is_weekday(entry)
    return False


def find_kind(thing):
    """Return "person", "day" or "place" for a word, None for any other thing."""
    if not isinstance(thing, tuple) or len(thing) not in (1, 2) or not isinstance(thing[0], str):
        return None
    if len(thing) == 1:
        return BARE_KINDS.get(thing[0])
    if fits_head(thing[0], thing[1]):
        return HEAD_KINDS[thing[0]]
    return None


def kind_of(word):
    """Return the kind of a word."""
    kind = find_kind(word)
    if kind is None:
        raise BadWord()
    return kind


def check_word(word):
    """Return the word itself."""
    if find_kind(word) is None:
        raise BadWord()
    return word


def is_unknown(word):
    """Tell whether a word stands for an unknown part of a report."""
    return check_word(word)[0] in ("somebody", "one day", "somewhere")


def is_absolute(word):
    """Tell whether a word means the same wherever it stands."""
    return check_word(word)[0] in ("name", "date", "place")


def needs_report(word):
    """Tell whether a word looks to an indirect report around it."""
    return check_word(word)[0] in ("self", "told", "that day", "there", "then coming", "then last")
