"""What is sure under facts."""

from whosetomorrow.clashes import refuse_clash
from whosetomorrow.days import difference_of, rests_of
from whosetomorrow.facts import check_fact
from whosetomorrow.forms import check_form, term_at
from whosetomorrow.joins import find_name_clash, find_unlike_clash
from whosetomorrow.knowing import know
from whosetomorrow.terms import check_term
from whosetomorrow.toldrows import first_parting


class Unsure:
    """The first place at which two forms are not sure to be heard alike, and a fit that shows it."""

    def __init__(self, path, index, situation, value_rows):
        self.path = path
        self.index = index
        self.situation = situation
        self.value_rows = value_rows

    def __eq__(self, other):
        return (
            isinstance(other, Unsure) and self.path == other.path and self.index == other.index
            and self.situation == other.situation and self.value_rows == other.value_rows
        )


def sure_same(facts, one, other):
    """Return None if two terms have one meaning in every fit, otherwise a fit in which they have not."""
    known = know(facts)
    check_term(one)
    check_term(other)
    return known.parting_fit(one, other)


def find_unsure(known, one, other, bare):
    """Return (path, index, fit) of the first place at which two forms are not heard alike in every fit, or None.

    With bare the manners are not looked at.
    """
    place = first_parting(one, other, bare, lambda term, other_term: not known.is_sure(term, other_term), ())
    if place is None:
        return None
    path, index = place
    if index is None:
        return (path, index, known.any_fit(()))
    return (path, index, known.parting_fit(term_at(one, path, index), term_at(other, path, index)))


def sure_form(facts, one, other):
    """Return None if two forms are heard alike in every fit, otherwise where and in which fit they are not."""
    known = know(facts)
    check_form(one)
    check_form(other)
    found = find_unsure(known, one, other, False)
    if found is None:
        return None
    path, index, fit = found
    return Unsure(path, index, fit[0], fit[1])


def is_never(rows, one, other):
    """Tell whether the facts have no fit in which two terms are one."""
    joined = list(rows) + [("same", one, other)]
    return find_name_clash(joined) is not None or find_unlike_clash(joined) is not None


def is_sure_range(told, fact):
    """Tell whether all differences of this range suit a "between" fact."""
    low, high = told
    suits_low = fact[3] is None or (low is not None and low >= fact[3])
    return suits_low and (fact[4] is None or (high is not None and high <= fact[4]))


def follows(facts, fact):
    """Tell whether a fact is true in every fit of the facts."""
    known = know(facts)
    head, one, other = check_fact(fact)[:3]
    if head == "same":
        return known.is_sure(one, other)
    if head == "unlike":
        return is_never(facts.rows, one, other)
    if head == "weekday":
        return rests_of(facts, one) == (other,)
    return is_sure_range(difference_of(facts, one, other), fact)


def needless_facts(facts):
    """Return the numbers of the facts that follow from all the others, ascending."""
    refuse_clash(facts)
    return tuple([
        number for number, fact in enumerate(facts.rows) if follows(facts.without_fact(number), fact)
    ])
