"""Right words: those that mean in every fit what a term means."""

from whosetomorrow.clashes import refuse_clash
from whosetomorrow.errors import BadValues, BadWord, MeansNothing
from whosetomorrow.facts import first_untrue
from whosetomorrow.knowing import know
from whosetomorrow.termlevels import term_or_none
from whosetomorrow.terms import check_term, value_of
from whosetomorrow.words import is_unknown


def check_known_word(word):
    """Refuse what is no word and what is an unknown one."""
    if is_unknown(word):
        raise BadWord()


def is_right_at(known, terms, term, word):
    """Tell whether a known word is right for a term at a level under what is known."""
    own = term_or_none(terms, word)
    return own is not None and known.is_sure(own, term)


def right_among(known, terms, term, words):
    """Return those of the words that are right for a term at a level under what is known."""
    return [word for word in words if is_right_at(known, terms, term, word)]


def is_right(terms, term, facts, word):
    """Tell whether a word is right for a term at a level of terms under facts."""
    known = know(facts)
    check_term(term)
    check_known_word(word)
    return is_right_at(known, terms, term, word)


def right_words(terms, term, facts, menu):
    """Return all words of the menu that are right for a term at a level of terms under facts."""
    known = know(facts)
    kind = check_term(term)
    return tuple(right_among(known, terms, term, menu.words_for(kind)))


def first_right(terms, term, facts, menu):
    """Return the first word of the menu that is right for a term at a level of terms under facts, or None."""
    known = know(facts)
    kind = check_term(term)
    for word in menu.words_for(kind):
        if is_right_at(known, terms, term, word):
            return word
    return None


def why_wrong(terms, term, facts, word):
    """Return None if a word is right, otherwise a fit in which it means something else than the term."""
    known = know(facts)
    check_term(term)
    check_known_word(word)
    own = term_or_none(terms, word)
    if own is None:
        raise MeansNothing(word)
    return known.parting_fit(own, term)


def menu_terms(terms, kind, menu):
    """Return the terms of all words of the menu of a kind that mean something at a level."""
    found = [term_or_none(terms, word) for word in menu.words_for(kind)]
    return [own for own in found if own is not None]


def parts_here(one, other, fit):
    """Tell whether two terms have unlike values in a fit."""
    situation, values = fit
    return value_of(one, situation, values) != value_of(other, situation, values)


def against_menu(terms, term, facts, menu):
    """Return None if some word of the menu is right, otherwise fits each of which parts words from the term."""
    known = know(facts)
    kind = check_term(term)
    fits = []
    for own in menu_terms(terms, kind, menu):
        if not any([parts_here(own, term, fit) for fit in fits]):
            fit = known.parting_fit(own, term)
            if fit is None:
                return None
            fits.append(fit)
    return tuple(fits)


def is_fit(facts, terms, fit):
    """Tell whether all facts are true in a pair of a situation and values, and all terms have a value there."""
    situation, values = fit
    try:
        for term in terms:
            value_of(term, situation, values)
        return first_untrue(facts, situation, values) is None
    except BadValues:
        return False


def against_fault(terms, term, facts, menu, fits):
    """Return None if fits show that no word of the menu is right, otherwise what is wrong with them."""
    refuse_clash(facts)
    found = menu_terms(terms, check_term(term), menu)
    if not all([is_fit(facts, [term] + found, fit) for fit in fits]):
        return "fit"
    for own in found:
        if not any([parts_here(own, term, fit) for fit in fits]):
            return "word"
    return None
