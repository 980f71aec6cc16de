"""Sayings and talks."""

from whosetomorrow.errors import BadSaying, BadTalk
from whosetomorrow.words import find_kind, is_name, is_sequence, is_unknown, needs_report

PART_NAMES = ("who", "whom", "day", "place")
PART_KINDS = ("person", "person", "day", "place")


class Saying:
    """What the two kinds of rows stand under; it is never made by itself."""


class Plain(Saying):
    """A plain saying: a deed with some words."""

    def __init__(self, deed, words):
        if not is_name(deed):
            raise BadSaying("deed")
        if not is_sequence(words) or len(words) > 4 or not all([is_known(word) for word in words]):
            raise BadSaying("words")
        self.deed = deed
        self.words = tuple(words)
        self.depth = 0
        self.reports = 0

    def __eq__(self, other):
        return isinstance(other, Plain) and self.deed == other.deed and self.words == other.words


class Report(Saying):
    """A report: who told whom, when, where, in which manner, and the rows that were told."""

    def __init__(self, who, whom, day, place, manner, rows):
        parts = (who, whom, day, place)
        for index, part in enumerate(parts):
            if find_kind(part) != PART_KINDS[index]:
                raise BadSaying(PART_NAMES[index])
        if not is_manner(manner):
            raise BadSaying("manner")
        if not has_length(rows) or not all([is_saying(row) for row in rows]):
            raise BadSaying("rows")
        depth = 1 + max([row.depth for row in rows])
        if depth > 4:
            raise BadSaying("deep")
        self.who = who
        self.whom = whom
        self.day = day
        self.place = place
        self.manner = manner
        self.rows = tuple(rows)
        self.parts = parts
        self.depth = depth
        self.reports = 1 + sum([row.reports for row in rows])

    def __eq__(self, other):
        return (
            isinstance(other, Report) and self.parts == other.parts
            and self.manner == other.manner and self.rows == other.rows
        )


class Talk:
    """A talk: its rows, as they were said."""

    def __init__(self, rows):
        if not has_length(rows):
            raise BadTalk((), "many")
        for index, row in enumerate(rows):
            if not is_saying(row):
                raise BadTalk((index,), "row")
        reports = sum([row.reports for row in rows])
        if reports > 12:
            raise BadTalk((), "reports")
        path = first_outside(rows, (), False)
        if path is not None:
            raise BadTalk(path, "outside")
        self.rows = tuple(rows)
        self.depth = max([row.depth for row in rows])
        self.reports = reports

    def __len__(self):
        return len(self.rows)

    def __iter__(self):
        return iter(self.rows)

    def __eq__(self, other):
        return isinstance(other, Talk) and self.rows == other.rows


def is_known(thing):
    """Tell whether a thing is a word that is not unknown."""
    return find_kind(thing) is not None and not is_unknown(thing)


def is_saying(thing):
    """Tell whether a thing may be a row."""
    return isinstance(thing, (Plain, Report))


def is_manner(thing):
    """Tell whether a thing is one of the two manners."""
    return isinstance(thing, str) and thing in ("own", "indirect")


def has_length(rows):
    """Tell whether rows are a list or tuple of 1 to 6 entries."""
    return is_sequence(rows) and 1 <= len(rows) <= 6


def own_words(row):
    """Return the words of a plain saying, or the four own words of a report."""
    if isinstance(row, Report):
        return row.parts
    return row.words


def first_outside(rows, path, indirect):
    """Return the path of the first row with a word that needs an indirect report and has none."""
    for index, row in enumerate(rows):
        here = path + (index,)
        if not indirect and any([needs_report(word) for word in own_words(row)]):
            return here
        if isinstance(row, Report):
            found = first_outside(row.rows, here, row.manner == "indirect")
            if found is not None:
                return found
    return None
