"""Joined reports: a report of a report told as one."""

from whosetomorrow.errors import NotAlone, NoWord
from whosetomorrow.forms import form_of
from whosetomorrow.levels import inner_level
from whosetomorrow.sayback import UNKNOWN_PARTS
from whosetomorrow.talks import Plain, Report, Talk
from whosetomorrow.talkways import check_values, report_at, report_number, rows_with
from whosetomorrow.termlevels import term_or_none, terms_at, unknown_term, words_alike
from whosetomorrow.toldrows import told_within
from whosetomorrow.words import is_unknown


def parts_kept(terms, number):
    """Return for each part of the joined report the number of the report whose unknown part it stands for, or None.

    These are the terms of the inner report's own words; the outer report has this number.
    """
    kept = []
    for index, term in enumerate(terms):
        reports = [at for at in (number, number + 1) if term == unknown_term(at, index)]
        kept.append(reports[0] if reports else None)
    return kept


def word_for(word, term, level, path, index):
    """Return a word for a term at a level: this one, if it has the term."""
    if term_or_none(level, word) == term:
        return word
    words = words_alike(level, term)
    if len(words) == 0:
        raise NoWord(path, index)
    return words[0]


def words_said(words, terms, level, path):
    """Return the words of the row at a path, which have these terms, for a new level; unknown ones stay."""
    return [
        word if is_unknown(word) else word_for(word, terms[index], level, path, index)
        for index, word in enumerate(words)
    ]


def row_said(row, told, level, tongue, path):
    """Return the row at a path for a new level."""
    if isinstance(row, Report):
        return report_said(row, row.parts, told, level, tongue, path)
    return Plain(row.deed, words_said(row.words, told[2], level, path))


def report_said(report, own, told, level, tongue, path):
    """Return the report at a path, with these own words, for a new level.

    All terms keep the numbers that reports have in the old talk: so the terms of the two reports that are joined
    stay apart, and what the new unknown parts do not stand for is at no level.
    """
    who, whom, day, place = words_said(own, told[1:5], level, path)
    within = inner_level(level, told[1:5], report.manner, tongue)
    rows = [
        row_said(row, told[6][at], within, tongue, path + (at,)) for at, row in enumerate(report.rows)
    ]
    return Report(who, whom, day, place, report.manner, rows)


def find_joined(talk, path, tongue):
    """Return the joined talk, and for each part of its joined report the number of the report told by it, or None."""
    outer = report_at(talk, path)
    if len(outer.rows) > 1 or isinstance(outer.rows[0], Plain):
        raise NotAlone()
    number = report_number(talk, path)
    inner = outer.rows[0]
    told = told_within(form_of(talk, tongue), path)[0]
    kept = parts_kept(told[1:5], number)
    own = [inner.parts[index] if at is None else UNKNOWN_PARTS[index] for index, at in enumerate(kept)]
    joined = report_said(inner, own, told, terms_at(talk, path, tongue), tongue, tuple(path) + (0,))
    return (Talk(rows_with(talk.rows, path, joined)), kept)


def one_report(talk, path, tongue):
    """Return the talk with the only row of the report at a path, a report, in its place."""
    joined, _ = find_joined(talk, path, tongue)
    return joined


def joined_values(talk, path, tongue, values=()):
    """Return the values of the joined talk with which it is heard as this one is with these values."""
    _, kept = find_joined(talk, path, tongue)
    checked = check_values(talk, values)
    number = report_number(talk, path)
    row = tuple([None if at is None else checked[at][index] for index, at in enumerate(kept)])
    return checked[:number] + (row,) + checked[number + 2:]
