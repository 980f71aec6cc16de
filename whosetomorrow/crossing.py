"""Talks put over from the tongue in which they were said to other tongues."""

from whosetomorrow.errors import NoSafeWord
from whosetomorrow.forms import form_of, term_at
from whosetomorrow.levels import inner_level
from whosetomorrow.talks import Plain, Report, Talk, own_words
from whosetomorrow.talkways import rows_of, word_at
from whosetomorrow.termlevels import outer_terms, term_or_none
from whosetomorrow.tonguegroups import check_tongues
from whosetomorrow.toldrows import things_of
from whosetomorrow.words import is_unknown, kind_of


def levels_within(levels, told, manner, tongues):
    """Return the levels, one for each tongue, within a report of a form that stands at these levels."""
    return [inner_level(level, told[1:5], manner, tongue) for level, tongue in zip(levels, tongues)]


def levels_around(form, path, tongues):
    """Return the levels, one for each tongue, at which the row at a path of a form stands."""
    levels = [outer_terms() for tongue in tongues]
    rows = form
    for entry in path[:-1]:
        told = rows[entry]
        levels = levels_within(levels, told, told[5], tongues)
        rows = told[6]
    return levels


def is_safe_word(levels, word, term):
    """Tell whether a word has this term at all levels."""
    return all([term_or_none(level, word) == term for level in levels])


def safe_among(levels, words, term):
    """Return those of the words that have this term at all levels."""
    return [word for word in words if is_safe_word(levels, word, term)]


def safe_words(talk, meant, path, index, tongues, menu):
    """Return the words of the menu that are safe at a word place."""
    word = word_at(talk, path, index)
    used = check_tongues(tongues)
    if is_unknown(word):
        return ()
    form = form_of(talk, meant)
    levels = levels_around(form, path, used)
    term = term_at(form, tuple(path), index)
    return tuple(safe_among(levels, menu.words_for(kind_of(word)), term))


def words_to_change(talk, meant, tongues):
    """Yield the word places whose own word is neither unknown nor safe."""
    used = check_tongues(tongues)
    form = form_of(talk, meant)
    told = {path: row for path, row in rows_of_form(form, ())}
    for path, row in rows_of(talk):
        levels = levels_around(form, path, used)
        terms = things_of(told[path])
        for index, word in enumerate(own_words(row)):
            if not is_unknown(word) and not is_safe_word(levels, word, terms[index]):
                yield (path, index)


def rows_of_form(rows, path):
    """Return all couples (path, row) of the rows of a form that stand in the report at this path."""
    found = []
    for at, row in enumerate(rows):
        here = path + (at,)
        found.append((here, row))
        if row[0] == "report":
            found.extend(rows_of_form(row[6], here))
    return found


class Crossing:
    """Puts rows over; each step returns what it made and None, or None and the place without a safe word."""

    def __init__(self, tongues, menu, free):
        self.tongues = tongues
        self.menu = menu
        self.free = free

    def words_over(self, words, terms, levels, path):
        """Put the words of the row at a path over."""
        made = []
        for index, word in enumerate(words):
            new = word
            if not is_unknown(word) and not is_safe_word(levels, word, terms[index]):
                safe = safe_among(levels, self.menu.words_for(kind_of(word)), terms[index])
                if len(safe) == 0:
                    return (None, (path, index))
                new = safe[0]
            made.append(new)
        return (made, None)

    def manners_for(self, report):
        """Return the manners to try for a report, one after the other."""
        if not self.free:
            return (report.manner,)
        return (report.manner, "indirect" if report.manner == "own" else "own")

    def report_over(self, report, told, levels, path):
        """Put the report at a path over."""
        words, missing = self.words_over(report.parts, told[1:5], levels, path)
        if words is None:
            return (None, missing)
        who, whom, day, place = words
        for manner in self.manners_for(report):
            inner = levels_within(levels, told, manner, self.tongues)
            rows, lacking = self.rows_over(report.rows, told[6], inner, path)
            if rows is not None:
                return (Report(who, whom, day, place, manner, rows), None)
            # What the report's own manner lacks is told, even if the other one lacks something, too.
            missing = lacking if missing is None else missing
        return (None, missing)

    def row_over(self, row, told, levels, path):
        """Put the row at a path over."""
        if isinstance(row, Report):
            return self.report_over(row, told, levels, path)
        words, missing = self.words_over(row.words, told[2], levels, path)
        return (None if words is None else Plain(row.deed, words), missing)

    def rows_over(self, rows, form, levels, path):
        """Put the rows of the report at a path over."""
        made = []
        for at, row in enumerate(rows):
            new, missing = self.row_over(row, form[at], levels, path + (at,))
            if new is None:
                return (None, missing)
            made.append(new)
        return (made, None)


def put_over(talk, meant, tongues, menu, *, free=False):
    """Return the talk with the meant form under each of the tongues; free reports may get the other manner."""
    used = check_tongues(tongues)
    levels = [outer_terms() for tongue in used]
    rows, missing = Crossing(used, menu, free).rows_over(talk.rows, form_of(talk, meant), levels, ())
    if rows is None:
        path, index = missing
        raise NoSafeWord(path, index)
    return Talk(rows)
