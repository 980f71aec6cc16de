"""Lots: terms of persons and places that facts make one."""

from whosetomorrow.errors import BadTerm
from whosetomorrow.knowing import know
from whosetomorrow.terms import find_term_kind
from whosetomorrow.words import is_sequence


def check_terms(terms, kinds):
    """Refuse what is no list or tuple of terms of these kinds."""
    if not is_sequence(terms) or not all([find_term_kind(term) in kinds for term in terms]):
        raise BadTerm()


def lots_of(facts, terms):
    """Return the lots of terms, each a tuple of terms that have one meaning in every fit."""
    known = know(facts)
    check_terms(terms, ("person", "place"))
    lots = {}
    for term in terms:
        lot = lots.setdefault(known.leader(term), [])
        if term not in lot:
            lot.append(term)
    return tuple([tuple(lot) for lot in lots.values()])
