"""Plain forms: talks with terms in the places of their words."""

from whosetomorrow.errors import BadForm
from whosetomorrow.talks import PART_KINDS, is_manner
from whosetomorrow.termlevels import outer_terms, term_or_unknown
from whosetomorrow.terms import find_term_kind, root_of_term, value_of
from whosetomorrow.toldrows import changed_rows, said_rows, things_below
from whosetomorrow.words import is_name


def form_of(talk, tongue):
    """Return the plain form of a talk."""
    return said_rows(talk.rows, outer_terms(), 0, tongue, term_or_unknown)


def form_value(form, situation, values=()):
    """Return the form with the value of each term."""
    return changed_rows(form, lambda term: value_of(term, situation, values))


def bare_form(form):
    """Return the form without its manners."""
    return tuple([row if row[0] == "plain" else row[:5] + (bare_form(row[6]),) for row in form])


def is_plain_row(thing):
    """Tell whether a thing is a plain saying of a form."""
    if not isinstance(thing, tuple) or len(thing) != 3 or not isinstance(thing[0], str) or thing[0] != "plain":
        return False
    if not is_name(thing[1]) or not isinstance(thing[2], tuple) or len(thing[2]) > 4:
        return False
    return all([find_term_kind(term) is not None for term in thing[2]])


def is_report_row(thing):
    """Tell whether a thing is a report of a form, whatever its rows are."""
    if not isinstance(thing, tuple) or len(thing) != 7 or not isinstance(thing[0], str) or thing[0] != "report":
        return False
    kinds = [find_term_kind(term) for term in thing[1:5]]
    return tuple(kinds) == PART_KINDS and is_manner(thing[5])


def count_reports(rows, path):
    """Return the number of reports in the rows of a form, or of the report in it at this path."""
    if not isinstance(rows, tuple) or not 1 <= len(rows) <= 6:
        raise BadForm(path)
    count = 0
    for at, row in enumerate(rows):
        here = path + (at,)
        if is_plain_row(row):
            continue
        if not is_report_row(row) or len(here) > 4:
            raise BadForm(here)
        count = count + 1 + count_reports(row[6], here)
    return count


def check_form(form):
    """Return the number of reports in a form."""
    count = count_reports(form, ())
    if count > 12:
        raise BadForm(())
    return count


def terms_in(form):
    """Yield all triples (path, index, term) in the order of reading."""
    yield from things_below(form, ())


def term_at(form, path, index):
    """Return the term at a word place of a form."""
    for at, number, term in terms_in(form):
        if at == path and number == index:
            return term
    return None


def looks_to(form):
    """Return the roots of all terms, each once, in their order."""
    found = [root_of_term(term) for path, index, term in terms_in(form)]
    order = [("T",), ("H",), ("D",), ("Z",)]
    for number in range(12):
        order.extend([("who", number), ("whom", number), ("day", number), ("where", number)])
    return tuple([root for root in order if root in found])


def is_settled(form):
    """Tell whether a form looks to nothing."""
    return len(looks_to(form)) == 0
