"""Passing on: by whom, and on which day, each report is told."""

from whosetomorrow.alike import parting_situation
from whosetomorrow.forms import form_of
from whosetomorrow.hearing import meaning_from
from whosetomorrow.levels import inner_level, outer_level
from whosetomorrow.strangers import unlike_situation
from whosetomorrow.talkways import check_values, names_in, places_in, report_paths, reports_around, row_at
from whosetomorrow.termlevels import outer_terms
from whosetomorrow.terms import root_of_term
from whosetomorrow.toldrows import said_parts, things_of, told_within


def tellings_of(talk, path, situation, tongue, values=()):
    """Return (who, whom, day, place) of the situation and of each report around the row at a path."""
    row_at(talk, path)
    said = meaning_from(check_values(talk, values))
    level = outer_level(situation)
    tellings = [level[:4]]
    for number, report in reports_around(talk, path):
        own = said_parts(report, level, number, said)
        tellings.append(own)
        level = inner_level(level, own, report.manner, tongue)
    return tuple(tellings)


def told_parts(form, path):
    """Return the terms of the own words of the report at a path, those of the situation for an empty path."""
    if len(path) == 0:
        return outer_terms()[:4]
    return things_of(told_within(form, path[:-1])[path[-1]])


def first_stranger(talk, tongue):
    """Return None if each report's whom always is the one who tells it, otherwise where and in which situation not."""
    form = form_of(talk, tongue)
    for path in report_paths(talk):
        whom = told_parts(form, path)[1]
        teller = told_parts(form, path[:-1])[0]
        if whom != teller:
            situation, values = parting_situation(whom, teller, names_in(talk), places_in(talk))
            return (path, situation, values)
    return None


def late_root(day, told):
    """Return (root, day of this root) with which a report's day is behind the day on which it is told, or None.

    The day on which it is told is over the outermost day: one over another root, or a date, was late itself.
    """
    root = root_of_term(day)
    if root == ("D",):
        rests = [rest for rest in range(7) if day[2][rest] > told[2][rest]]
        return (root, rests[0]) if rests else None
    if root is None:
        return (("D",), day[1] - max(told[2]) - 1)
    # It is the report's own unknown day; the outermost day is 0.
    return (root, told[2][0] + 1)


def first_late(talk, tongue):
    """Return None if no report's day ever is behind the day on which it is told, otherwise where and when it is."""
    form = form_of(talk, tongue)
    for path in report_paths(talk):
        late = late_root(told_parts(form, path)[2], told_parts(form, path[:-1])[2])
        if late is not None:
            situation, values = unlike_situation(names_in(talk), places_in(talk), late[0], late[1])
            return (path, situation, values)
    return None


def is_passed_on(talk, tongue):
    """Tell whether everything was always heard by the one who tells it, and never is told ahead of the day it was."""
    return first_stranger(talk, tongue) is None and first_late(talk, tongue) is None
