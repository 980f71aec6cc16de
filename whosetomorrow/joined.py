"""Joined reports: a report of a report told as one."""

from whosetomorrow.errors import NotAlone, NoWord
from whosetomorrow.forms import form_of
from whosetomorrow.levels import inner_level
from whosetomorrow.sayback import UNKNOWN_PARTS
from whosetomorrow.talks import Plain, Report, Talk
from whosetomorrow.talkways import check_values, report_at, report_number, rows_with
from whosetomorrow.termlevels import term_or_none, terms_at, unknown_term, words_alike
from whosetomorrow.terms import root_of_term
from whosetomorrow.toldrows import told_within
from whosetomorrow.words import is_unknown


def joined_root(root, number, kept):
    """Return a root as it is counted in the joined talk, None if it is lost there.

    The outer report has this number; kept are the roots of the two reports that the new unknown parts stand for.
    """
    if len(root) == 1 or root[1] < number:
        return root
    if root[1] > number + 1:
        return (root[0], root[1] - 1)
    return (root[0], number) if root in kept else None


def joined_term(term, number, kept):
    """Return a term as it is counted in the joined talk, None if it is lost there."""
    root = root_of_term(term)
    if root is None:
        return term
    new = joined_root(root, number, kept)
    if new is None:
        return None
    return ("sevens", new, term[2]) if term[0] == "sevens" else new


def parts_kept(terms, number):
    """Return for each part of the joined report the number of the report whose unknown part it stands for, or None.

    These are the terms of the inner report's own words; the outer report has this number.
    """
    kept = []
    for index, term in enumerate(terms):
        reports = [at for at in (number, number + 1) if term == unknown_term(at, index)]
        kept.append(reports[0] if reports else None)
    return kept


def word_for(word, term, level, path, index):
    """Return a word for a term at a level: this one, if it has the term."""
    if term is not None and term_or_none(level, word) == term:
        return word
    words = () if term is None else words_alike(level, term)
    if len(words) == 0:
        raise NoWord(path, index)
    return words[0]


class Joining:
    """Says the rows of an inner report for new levels; the outer report has this number."""

    def __init__(self, number, kept, tongue):
        self.number = number
        self.kept = [root_of_term(unknown_term(at, index)) for index, at in enumerate(kept) if at is not None]
        self.tongue = tongue

    def said(self, words, told, level, path):
        """Return the words of the row at a path, which have these terms, for this level, and their new terms."""
        new = []
        terms = []
        for index, word in enumerate(words):
            term = joined_term(told[index], self.number, self.kept)
            new.append(word if is_unknown(word) else word_for(word, term, level, path, index))
            terms.append(term)
        return (new, terms)

    def row_said(self, row, told, level, path):
        """Return the row at a path for this level."""
        if isinstance(row, Report):
            return self.report_said(row, row.parts, told, level, path)
        words, _ = self.said(row.words, told[2], level, path)
        return Plain(row.deed, words)

    def report_said(self, report, own, told, level, path):
        """Return the report at a path, with these own words, for this level."""
        words, terms = self.said(own, told[1:5], level, path)
        within = inner_level(level, terms, report.manner, self.tongue)
        rows = [
            self.row_said(row, told[6][at], within, path + (at,)) for at, row in enumerate(report.rows)
        ]
        who, whom, day, place = words
        return Report(who, whom, day, place, report.manner, rows)


def find_joined(talk, path, tongue):
    """Return the joined talk, and for each part of its joined report the number of the report told by it, or None."""
    outer = report_at(talk, path)
    if len(outer.rows) > 1 or isinstance(outer.rows[0], Plain):
        raise NotAlone()
    number = report_number(talk, path)
    inner = outer.rows[0]
    told = told_within(form_of(talk, tongue), path)[0]
    kept = parts_kept(told[1:5], number)
    own = [inner.parts[index] if at is None else UNKNOWN_PARTS[index] for index, at in enumerate(kept)]
    joining = Joining(number, kept, tongue)
    joined = joining.report_said(inner, own, told, terms_at(talk, path, tongue), tuple(path) + (0,))
    return (Talk(rows_with(talk.rows, path, joined)), kept)


def one_report(talk, path, tongue):
    """Return the talk with the only row of the report at a path, a report, in its place."""
    joined, _ = find_joined(talk, path, tongue)
    return joined


def joined_values(talk, path, tongue, values=()):
    """Return the values of the joined talk with which it is heard as this one is with these values."""
    _, kept = find_joined(talk, path, tongue)
    checked = check_values(talk, values)
    number = report_number(talk, path)
    row = tuple([None if at is None else checked[at][index] for index, at in enumerate(kept)])
    return checked[:number] + (row,) + checked[number + 2:]
