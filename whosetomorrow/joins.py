"""Joins: how "same" facts join terms of persons, or of places, to lots."""


def joins_of(rows):
    """Return for each term of the "same" facts a list of couples (term that it is joined to, number of the fact)."""
    joins = {}
    for number, fact in enumerate(rows):
        if fact[0] == "same":
            one, other = fact[1], fact[2]
            joins.setdefault(one, []).append((other, number))
            joins.setdefault(other, []).append((one, number))
    return joins


def chains_from(joins, term):
    """Return for each term of the lot of a term a shortest chain (terms, numbers) that leads to it."""
    chains = {term: ((term,), ())}
    waiting = [term]
    while waiting:
        last = waiting.pop(0)
        terms, numbers = chains[last]
        for other, number in joins.get(last, []):
            if other not in chains:
                chains[other] = (terms + (other,), numbers + (number,))
                waiting.append(other)
    return chains


def lot_leaders(rows):
    """Return for each term of the "same" facts the first one of its lot."""
    joins = joins_of(rows)
    leaders = {}
    for term in joins:
        if term not in leaders:
            for other in chains_from(joins, term):
                leaders[other] = term
    return leaders


def is_named(term):
    """Tell whether a term is a name."""
    return term[0] in ("name", "place")


def find_name_clash(rows):
    """Return a chain (terms, numbers) between two unlike names, or None."""
    joins = joins_of(rows)
    for term in joins:
        if is_named(term):
            for other, chain in chains_from(joins, term).items():
                if is_named(other) and other != term:
                    return chain
    return None


def find_unlike_clash(rows):
    """Return (number, terms, numbers) of an "unlike" fact and a chain that joins its terms, or None."""
    joins = joins_of(rows)
    for number, fact in enumerate(rows):
        if fact[0] == "unlike":
            chains = chains_from(joins, fact[1])
            if fact[2] in chains:
                terms, numbers = chains[fact[2]]
                return (number, terms, numbers)
    return None
