"""Told rows: tuples that stand for the rows of a talk, with a thing in the place of each word.

What is heard of a talk and the form of a talk are both told rows; their
things are meanings and terms. `said(level, word, number, index)` tells what
stands in the place of a word at a level; number and index tell an unknown word
which part of which report it is.
"""

from whosetomorrow.levels import inner_level
from whosetomorrow.talks import Plain
from whosetomorrow.talkways import reports_around


def said_parts(report, level, number, said):
    """Return what is said by the own words of the report with this number."""
    return tuple([said(level, word, number, index) for index, word in enumerate(report.parts)])


def said_row(row, level, number, tongue, said):
    """Return the told row for a row; if it is a report, this is its number."""
    if isinstance(row, Plain):
        return ("plain", row.deed, tuple([said(level, word, None, None) for word in row.words]))
    own = said_parts(row, level, number, said)
    inner = inner_level(level, own, row.manner, tongue)
    return ("report",) + own + (row.manner, said_rows(row.rows, inner, number + 1, tongue, said))


def said_rows(rows, level, number, tongue, said):
    """Return the told rows for rows at a level; the first report in them has this number."""
    told = []
    at = number
    for row in rows:
        told.append(said_row(row, level, at, tongue, said))
        at = at + row.reports
    return tuple(told)


def level_around(talk, path, level, tongue, said):
    """Return the level at which the row at a path stands, if this level is the outermost one."""
    here = level
    for number, report in reports_around(talk, path):
        here = inner_level(here, said_parts(report, here, number, said), report.manner, tongue)
    return here


def things_of(row):
    """Return the things in a told row itself."""
    return row[2] if row[0] == "plain" else row[1:5]


def things_below(rows, path):
    """Return all triples (path, index, thing) of the told rows of the report at this path."""
    found = []
    for at, row in enumerate(rows):
        here = path + (at,)
        for index, thing in enumerate(things_of(row)):
            found.append((here, index, thing))
        if row[0] == "report":
            found.extend(things_below(row[6], here))
    return found


def told_within(told, path):
    """Return the told rows within the report at a path."""
    rows = told
    for entry in path:
        rows = rows[entry][6]
    return rows


def changed_row(row, change):
    """Return a told row with what a function makes of each thing in its place."""
    things = tuple([change(thing) for thing in things_of(row)])
    if row[0] == "plain":
        return ("plain", row[1], things)
    return ("report",) + things + (row[5], changed_rows(row[6], change))


def changed_rows(rows, change):
    """Return told rows with what a function makes of each thing in its place."""
    return tuple([changed_row(row, change) for row in rows])


def head_of(row, bare):
    """Return what is compared of a told row ahead of its things; bare leaves out the manner."""
    if row[0] == "plain":
        return ("plain", row[1], len(row[2]))
    return ("report", None if bare else row[5])


def are_unlike(one, other):
    """Tell whether two things are not equal."""
    return one != other


def first_parting(one, other, bare, unlike, path):
    """Return the first place at which the told rows of the report at a path differ, or None.

    `unlike(thing, other_thing)` tells whether two things in one place differ.
    """
    if len(one) != len(other):
        return (path, None)
    for at, row in enumerate(one):
        found = row_parting(row, other[at], bare, unlike, path + (at,))
        if found is not None:
            return found
    return None


def row_parting(one, other, bare, unlike, path):
    """Return the first place at which two told rows at this path differ, or None."""
    if head_of(one, bare) != head_of(other, bare):
        return (path, None)
    others = things_of(other)
    for index, thing in enumerate(things_of(one)):
        if unlike(thing, others[index]):
            return (path, index)
    if one[0] == "plain":
        return None
    return first_parting(one[6], other[6], bare, unlike, path)
