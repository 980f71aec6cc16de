"""Rings of bounds: why days clash."""

from whosetomorrow.dayposts import legs_of, lowered, told_rests


def relaxed(edges, ahead, comes):
    """Lower the sums to the ends of all edges, note the edges, and return an end that was lowered, or None."""
    found = None
    for at, edge in enumerate(edges):
        begin, end, worth = edge[:3]
        if begin in ahead and (end not in ahead or ahead[begin] + worth < ahead[end]):
            ahead[end] = ahead[begin] + worth
            comes[end] = at
            found = end
    return found


def negative_ring(edges):
    """Return edges (begin, end, worth, ..) that make a ring worth less than zero, or None."""
    ahead = {}
    for edge in edges:
        ahead[edge[0]] = 0
        ahead[edge[1]] = 0
    comes = {}
    last = None
    for _ in range(len(ahead)):
        last = relaxed(edges, ahead, comes)
    if last is None:
        return None
    # What is still lowered hangs on a ring; going back often enough leads into it.
    for _ in range(len(ahead)):
        last = edges[comes[last]][0]
    return road_back(edges, comes, last, last)


def road_back(edges, comes, first, last):
    """Return the noted edges that lead from a first post to a last one, one at least."""
    road = [edges[comes[last]]]
    while road[0][0] != first:
        road.insert(0, edges[comes[road[0][0]]])
    return road


def stretches_from(legs, rests, start):
    """Return (start, end, worth, legs) of the shortest stretches from a post to all others of known rest."""
    ahead = {start: 0}
    comes = {}
    while relaxed(legs, ahead, comes) is not None:
        continue
    stretches = []
    for end in rests:
        if end != start and end in ahead:
            worth = lowered(ahead[end], rests[end] - rests[start])
            stretches.append((start, end, worth, road_back(legs, comes, start, end)))
    return stretches


def leg_names(legs):
    """Return the tuple of the (number, side) of legs."""
    return tuple([leg[3] for leg in legs])


def find_ring(rows):
    """Return a ring of stretches of legs that is worth less than zero, None if there is none."""
    legs = legs_of(rows)
    ring = negative_ring(legs)
    if ring is not None:
        return (leg_names(ring),)
    rests = told_rests(rows)
    stretches = []
    for start in rests:
        stretches.extend(stretches_from(legs, rests, start))
    ring = negative_ring(stretches)
    return None if ring is None else tuple([leg_names(stretch[3]) for stretch in ring])
