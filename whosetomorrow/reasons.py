"""Why facts clash."""

from whosetomorrow.dayposts import find_date_clash, find_weekday_clash, leg_of, lowered, told_rests
from whosetomorrow.dayrings import find_ring
from whosetomorrow.joins import find_name_clash, find_unlike_clash
from whosetomorrow.terms import find_term_kind
from whosetomorrow.words import is_index, is_whole


class Reason:
    """A reason why facts clash."""

    def __init__(self, what, row):
        self.what = what
        self.row = row

    def __eq__(self, other):
        return isinstance(other, Reason) and self.what == other.what and self.row == other.row


def clash_reason(facts):
    """Return None if the facts have a fit, otherwise a reason why not."""
    rows = facts.rows
    chain = find_name_clash(rows)
    if chain is not None:
        return Reason("names", chain)
    unlike = find_unlike_clash(rows)
    if unlike is not None:
        return Reason("unlike", unlike)
    number = find_date_clash(rows)
    if number is not None:
        return Reason("weekday", (number,))
    numbers = find_weekday_clash(rows)
    if numbers is not None:
        return Reason("weekdays", numbers)
    ring = find_ring(rows)
    return None if ring is None else Reason("ring", ring)


def is_chain(terms, numbers):
    """Tell whether things have the shape of a chain."""
    if not isinstance(terms, tuple) or not isinstance(numbers, tuple) or len(terms) != len(numbers) + 1:
        return False
    return all([isinstance(term, tuple) for term in terms]) and are_wholes(numbers)


def are_wholes(things):
    """Tell whether all things are whole numbers."""
    return all([is_whole(thing) for thing in things])


def is_leg(thing):
    """Tell whether a thing has the shape of a leg."""
    if not isinstance(thing, tuple) or len(thing) != 2 or not isinstance(thing[1], str):
        return False
    return is_whole(thing[0]) and thing[1] in ("high", "low")


def is_stretch(thing):
    """Tell whether a thing has the shape of a stretch."""
    return isinstance(thing, tuple) and len(thing) > 0 and all([is_leg(leg) for leg in thing])


def has_shape(what, row):
    """Tell whether a reason has the shape of one of the five."""
    if not isinstance(what, str) or not isinstance(row, tuple):
        return False
    if what == "names":
        return len(row) == 2 and is_chain(row[0], row[1])
    if what == "unlike":
        return len(row) == 3 and is_whole(row[0]) and is_chain(row[1], row[2])
    if what == "weekday":
        return len(row) == 1 and are_wholes(row)
    if what == "weekdays":
        return len(row) == 2 and are_wholes(row)
    return what == "ring" and len(row) > 0 and all([is_stretch(stretch) for stretch in row])


def are_facts(rows, numbers, head):
    """Tell whether all numbers are those of facts of a kind."""
    return all([is_index(number, len(rows)) and rows[number][0] == head for number in numbers])


def is_just(term, thing):
    """Tell whether a thing is this term; a tuple with True in it may be equal to a term and is none."""
    return find_term_kind(thing) is not None and thing == term


def joins_terms(fact, one, other):
    """Tell whether a "same" fact joins two things, in either order."""
    x, y = fact[1:]
    return (is_just(x, one) and is_just(y, other)) or (is_just(y, one) and is_just(x, other))


def is_joined(rows, terms, numbers):
    """Tell whether each fact of a chain joins its two terms."""
    return all([
        joins_terms(rows[number], terms[at], terms[at + 1]) for at, number in enumerate(numbers)
    ])


def names_fault(rows, terms, numbers):
    """Return the first word that applies to a reason "names", or None."""
    if not are_facts(rows, numbers, "same"):
        return "number"
    if not is_joined(rows, terms, numbers):
        return "chain"
    first, last = terms[0], terms[-1]
    kinds = [find_term_kind(first), find_term_kind(last)]
    if None in kinds or first[0] not in ("name", "place") or last[0] != first[0] or first == last:
        return "ends"
    return None


def unlike_fault(rows, number, terms, numbers):
    """Return the first word that applies to a reason "unlike", or None."""
    if not are_facts(rows, (number,), "unlike") or not are_facts(rows, numbers, "same"):
        return "number"
    if not is_joined(rows, terms, numbers):
        return "chain"
    if not is_just(rows[number][1], terms[0]) or not is_just(rows[number][2], terms[-1]):
        return "ends"
    return None


def weekday_fault(rows, numbers):
    """Return the first word that applies to a reason "weekday" or "weekdays", or None."""
    if not are_facts(rows, numbers, "weekday"):
        return "number"
    mark, weekday = rows[numbers[0]][1:]
    if len(numbers) == 1:
        return "rests" if mark[0] != "date" or mark[1] % 7 == weekday else None
    other_mark, other_weekday = rows[numbers[1]][1:]
    return "rests" if mark != other_mark or weekday == other_weekday else None


def has_side(fact, side):
    """Tell whether a "between" fact has a bound on a side."""
    return fact[4 if side == "high" else 3] is not None


def ring_worth(stretches, rests):
    """Return what stretches of (begin, end, worth, leg) are worth together."""
    total = 0
    for stretch in stretches:
        worth = sum([leg[2] for leg in stretch])
        if len(stretches) > 1:
            worth = lowered(worth, rests[stretch[-1][1]] - rests[stretch[0][0]])
        total = total + worth
    return total


def ring_fault(rows, ring):
    """Return the first word that applies to a reason "ring", or None."""
    names = [leg for stretch in ring for leg in stretch]
    if not are_facts(rows, [number for number, side in names], "between"):
        return "number"
    if not all([has_side(rows[number], side) for number, side in names]):
        return "side"
    stretches = [[leg_of(rows[number], number, side) for number, side in stretch] for stretch in ring]
    legs = [leg for stretch in stretches for leg in stretch]
    if not all([leg[0] == legs[at - 1][1] for at, leg in enumerate(legs)]):
        return "road"
    rests = told_rests(rows)
    if len(stretches) > 1 and not all([stretch[0][0] in rests for stretch in stretches]):
        return "rests"
    return None if ring_worth(stretches, rests) < 0 else "sum"


def reason_fault(facts, reason):
    """Return None if a reason is right, otherwise what is wrong with it."""
    what, row = reason.what, reason.row
    if not has_shape(what, row):
        return "shape"
    rows = facts.rows
    if what == "names":
        return names_fault(rows, row[0], row[1])
    if what == "unlike":
        return unlike_fault(rows, row[0], row[1], row[2])
    if what == "ring":
        return ring_fault(rows, row)
    return weekday_fault(rows, row)
