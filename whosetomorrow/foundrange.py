"""What words of found letters can mean."""

from whosetomorrow.dayposts import ZERO
from whosetomorrow.days import moved_range
from whosetomorrow.errors import BadNames, NotADay, NotNamed
from whosetomorrow.found import word_cases
from whosetomorrow.sure import is_never
from whosetomorrow.talkways import word_at, words_of
from whosetomorrow.words import is_name, is_sequence, kind_of

MOST_NAMES = 12


class CanBe:
    """Which names a word can mean, and whether it can mean another one."""

    def __init__(self, names, stranger):
        self.names = names
        self.stranger = stranger

    def __eq__(self, other):
        return isinstance(other, CanBe) and self.names == other.names and self.stranger == other.stranger


def check_asked_names(names):
    """Refuse what is no list or tuple of up to twelve names, each another one."""
    if not is_sequence(names) or len(names) > MOST_NAMES:
        raise BadNames(0)
    for index, name in enumerate(names):
        if not is_name(name) or name in names[:index]:
            raise BadNames(index)


def can_be_stranger(found, term, asked):
    """Tell whether a term of a person or a place means in some reading none of these names, given as terms."""
    return found.known.name_for(term) not in asked


def who_can(found, path, index, names):
    """Return which of the names a person word or place word means in some reading, and whether another one."""
    kind = kind_of(word_at(found.talk, path, index))
    if kind == "day":
        raise NotNamed()
    check_asked_names(names)
    terms = [term for tongue, term in word_cases(found, path, index)]
    asked = [("name" if kind == "person" else "place", name) for name in names]
    told = [
        name[1] for name in asked
        if not all([is_never(found.facts.rows, term, name) for term in terms])
    ]
    return CanBe(tuple(told), any([can_be_stranger(found, term, asked) for term in terms]))


def ranges_of(found, term):
    """Return (weekday, first, last) for the dates that a day term can be, for each rest of its root."""
    if term[0] == "date":
        return [(term[1] % 7, term[1], term[1])]
    rows = []
    for _, rest, low, high in found.known.bounds.cases(ZERO, term[1]):
        first, last = moved_range(low, high, term[2][rest])
        rows.append(((rest + term[2][rest]) % 7, first, last))
    return rows


def row_order(row):
    """Return what rows are sorted by: the weekday, then no first date ahead of all others."""
    weekday, first, last = row
    return (weekday, first is not None, 0 if first is None else first)


def joined_rows(rows):
    """Return sorted rows with those joined between which no date is missing."""
    found = []
    for weekday, first, last in rows:
        if found and found[-1][0] == weekday and follows_on(found[-1][2], first):
            end = found[-1][2]
            found[-1] = (weekday, found[-1][1], None if end is None or last is None else max(end, last))
        else:
            found.append((weekday, first, last))
    return found


def follows_on(end, first):
    """Tell whether no date of a weekday is missing between the end of a row and the first date of a later one."""
    return end is None or first is None or first <= end + 7


def days_can(found, path, index):
    """Return rows (weekday, first, last) of the dates that a day word means in some reading."""
    if kind_of(word_at(found.talk, path, index)) != "day":
        raise NotADay()
    rows = []
    for tongue, term in word_cases(found, path, index):
        rows.extend(ranges_of(found, term))
    return tuple(joined_rows(sorted(rows, key=row_order)))


def sure_day(found, path, index):
    """Return the date that a day word means in every reading, or None."""
    rows = days_can(found, path, index)
    first, last = rows[0][1:]
    return ("date", first) if len(rows) == 1 and first is not None and first == last else None


def sure_meaning(found, path, index):
    """Return the absolute word that a word means in every reading, or None."""
    if kind_of(word_at(found.talk, path, index)) == "day":
        return sure_day(found, path, index)
    named = [found.known.name_for(term) for tongue, term in word_cases(found, path, index)]
    return named[0] if all([name == named[0] for name in named]) else None


def settled_words(found):
    """Yield (path, index, meaning) of all word places that mean one thing in every reading."""
    for path, index, word in words_of(found.talk):
        meaning = sure_meaning(found, path, index)
        if meaning is not None:
            yield (path, index, meaning)


def is_open_word(found, path, index):
    """Tell whether no number of things bounds what a word can mean."""
    if kind_of(word_at(found.talk, path, index)) == "day":
        return any([first is None or last is None for weekday, first, last in days_can(found, path, index)])
    return any([found.known.name_for(term) is None for tongue, term in word_cases(found, path, index)])
