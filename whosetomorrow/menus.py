"""Menus: what words are chosen from."""

from whosetomorrow.errors import BadKind, BadMenu, BadWord, NotInMenu
from whosetomorrow.talkways import words_of
from whosetomorrow.words import is_name, is_sequence, is_unknown, is_whole, kind_of

MOST_NAMES = 6
MOST_DATES = 12


def check_entries(entries, most, fits, whole, single):
    """Return entries as a tuple; refuse what is no sequence of so many entries that fit, each another one."""
    if not is_sequence(entries) or len(entries) > most:
        raise BadMenu(0, whole)
    for index, entry in enumerate(entries):
        if not fits(entry):
            raise BadMenu(index, single)
        if entry in entries[:index]:
            raise BadMenu(index, "same " + single)
    return tuple(entries)


def counted_words(head):
    """Return the words that count days from a day, the nearest days first."""
    words = [(head, 0)]
    for k in range(1, 31):
        words.extend([(head, k), (head, -k)])
    return words


def weekday_words():
    """Return the words with weekdays."""
    return [(head, w) for head in ("coming", "last", "then coming", "then last") for w in range(7)]


class Menu:
    """Names of persons and places, and dates, with all words that look to a level."""

    def __init__(self, names=(), places=(), dates=()):
        self.names = check_entries(names, MOST_NAMES, is_name, "names", "name")
        self.places = check_entries(places, MOST_NAMES, is_name, "places", "place")
        self.dates = check_entries(dates, MOST_DATES, is_whole, "dates", "date")
        persons = [("I",), ("you",), ("self",), ("told",)] + [("name", name) for name in self.names]
        days = counted_words("today") + counted_words("that day") + weekday_words()
        days = days + [("date", date) for date in self.dates]
        spots = [("here",), ("there",)] + [("place", place) for place in self.places]
        self.words_by_kind = (("person", tuple(persons)), ("day", tuple(days)), ("place", tuple(spots)))
        self.rows = tuple(persons + days + spots)

    def words_for(self, kind):
        """Return the words of one kind."""
        for told, words in self.words_by_kind:
            if kind == told:
                return words
        raise BadKind(kind)

    def position_of(self, word):
        """Return the place of a known word among the words of its kind."""
        if is_unknown(word):
            raise BadWord()
        words = self.words_for(kind_of(word))
        if word not in words:
            raise NotInMenu(word)
        return words.index(word)

    def __len__(self):
        return len(self.rows)

    def __iter__(self):
        return iter(self.rows)

    def __eq__(self, other):
        return isinstance(other, Menu) and self.rows == other.rows


def first_entries(talk, head, most):
    """Return the second entries of the words of a talk with this first one, each once, up to so many."""
    found = []
    for path, index, word in words_of(talk):
        if word[0] == head and word[1] not in found:
            found.append(word[1])
    return found[:most]


def menu_of(talk):
    """Return the menu of the names, places and dates that stand in a talk."""
    return Menu(
        first_entries(talk, "name", MOST_NAMES), first_entries(talk, "place", MOST_NAMES),
        first_entries(talk, "date", MOST_DATES))
