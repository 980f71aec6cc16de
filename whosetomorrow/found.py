"""Found letters: talks of which nobody knows who said them to whom, when and where."""

from whosetomorrow.clashes import refuse_clash
from whosetomorrow.errors import BadMeaning, BadValues, NoPath
from whosetomorrow.facts import first_untrue
from whosetomorrow.knowing import Known, know_more
from whosetomorrow.origins import days_leading_to
from whosetomorrow.talks import Report
from whosetomorrow.talkways import check_values, report_number, row_at, word_at
from whosetomorrow.termlevels import term_said, terms_at, unknown_term
from whosetomorrow.terms import find_term_kind
from whosetomorrow.tonguegroups import check_tongues
from whosetomorrow.words import find_kind, is_absolute, is_sequence, is_unknown


class FoundLetter:
    """A talk in one of some tongues, found under facts."""

    def __init__(self, talk, tongues, facts):
        used = check_tongues(tongues)
        refuse_clash(facts)
        self.talk = talk
        self.tongues = used
        self.facts = facts
        self.known = Known(facts.rows)

    def __eq__(self, other):
        return (
            isinstance(other, FoundLetter) and self.talk == other.talk and self.tongues == other.tongues
            and self.facts == other.facts
        )


class Reading:
    """A way to read a letter."""

    def __init__(self, tongue, situation, value_rows):
        self.tongue = tongue
        self.situation = situation
        self.value_rows = value_rows

    def __eq__(self, other):
        return (
            isinstance(other, Reading) and self.tongue == other.tongue and self.situation == other.situation
            and self.value_rows == other.value_rows
        )


class Sure:
    """What is asked is so in every reading that fits."""

    def __eq__(self, other):
        return isinstance(other, Sure)


class Never:
    """What is asked is so in no reading that fits."""

    def __eq__(self, other):
        return isinstance(other, Never)


class Both:
    """Two readings that fit: in one what is asked is so, in the other it is not."""

    def __init__(self, yes, no):
        self.yes = yes
        self.no = no

    def __eq__(self, other):
        return isinstance(other, Both) and self.yes == other.yes and self.no == other.no


def reading_fits(found, reading):
    """Tell whether a reading fits a letter."""
    if reading.tongue not in found.tongues:
        return False
    try:
        check_values(found.talk, reading.value_rows)
        return first_untrue(found.facts, reading.situation, reading.value_rows) is None
    except BadValues:
        return False


def reading_of(tongue, fit):
    """Return the reading in a tongue that is this fit."""
    return Reading(tongue, fit[0], fit[1])


def a_reading(found):
    """Return a reading that fits a letter."""
    return reading_of(found.tongues[0], found.known.any_fit(()))


def cases_of(found, terms_for):
    """Return couples (tongue, terms): what `terms_for(tongue)` returns, each once, with its first tongue."""
    cases = []
    seen = []
    for tongue in found.tongues:
        terms = terms_for(tongue)
        if terms not in seen:
            cases.append((tongue, terms))
            seen.append(terms)
    return cases


def find_reading(cases, fit_of):
    """Return the reading of the first case for whose terms `fit_of(terms)` returns a fit, or None."""
    for tongue, terms in cases:
        fit = fit_of(terms)
        if fit is not None:
            return reading_of(tongue, fit)
    return None


def judged(cases, yes_of, no_of):
    """Return Sure, Never or Both; the functions return for terms a fit in which what is asked is so, or is not."""
    no = find_reading(cases, no_of)
    if no is None:
        return Sure()
    yes = find_reading(cases, yes_of)
    return Never() if yes is None else Both(yes, no)


def term_in(talk, path, index, tongue):
    """Return the term of the word at a word place, also of an unknown one."""
    word = word_at(talk, path, index)
    if is_unknown(word):
        return unknown_term(report_number(talk, path), index)
    return term_said(terms_at(talk, path, tongue), word)


def word_cases(found, path, index):
    """Return the couples (tongue, term) of a word place, each term once with its first tongue."""
    return cases_of(found, lambda tongue: term_in(found.talk, path, index, tongue))


def facts_meaning(term, meaning):
    """Return facts that are true together exactly where a term means this; None if it never does."""
    kind = find_kind(meaning)
    if find_term_kind(term) != kind:
        return None
    if kind != "day":
        return [("same", term, meaning)]
    if term[0] == "date":
        return [] if term == meaning else None
    # The days of the root that lead to one date follow one another.
    days = days_leading_to(term[2], meaning)
    if len(days) == 0:
        return None
    return [("between", days[0], term[1], 0, len(days) - 1)]


def all_meant(found, terms, meanings):
    """Return a fit in which all terms have these meanings, None if there is none."""
    more = []
    for term, meaning in zip(terms, meanings):
        facts = facts_meaning(term, meaning)
        if facts is None:
            return None
        more.extend(facts)
    known = know_more(found.facts.rows, more)
    return None if known is None else known.any_fit(())


def some_unmeant(found, terms, meanings):
    """Return a fit in which not all terms have these meanings, None if there is none."""
    for term, meaning in zip(terms, meanings):
        fit = found.known.parting_fit(term, meaning)
        if fit is not None:
            return fit
    return None


def matched(found, path, indices, meanings):
    """Return Sure, Never or Both for these meanings of these words of a row together."""
    cases = cases_of(found, lambda tongue: [term_in(found.talk, path, index, tongue) for index in indices])
    return judged(
        cases, lambda terms: all_meant(found, terms, meanings), lambda words: some_unmeant(found, words, meanings))


def is_meaning(thing):
    """Tell whether a thing is an absolute word."""
    return find_kind(thing) is not None and is_absolute(thing)


def match_word(found, path, index, meaning):
    """Return whether the word at a word place means this in all, in none or in some readings."""
    word_at(found.talk, path, index)
    if not is_meaning(meaning):
        raise BadMeaning(0)
    return matched(found, path, (index,), (meaning,))


def match_saying(found, path, deed, meanings):
    """Return whether the plain saying at a path says this deed with these meanings in all, none or some readings."""
    row = row_at(found.talk, path)
    if isinstance(row, Report):
        raise NoPath(len(path))
    if not is_sequence(meanings):
        raise BadMeaning(0)
    for index, meaning in enumerate(meanings):
        if not is_meaning(meaning):
            raise BadMeaning(index)
    if row.deed != deed or len(row.words) != len(meanings):
        return Never()
    return matched(found, path, tuple(range(len(meanings))), tuple(meanings))
