"""Sevens: the offsets of a day from its root, one for each rest of the root's day."""

from whosetomorrow.errors import BadHop, BadSevens
from whosetomorrow.levels import day_ahead, day_behind
from whosetomorrow.words import is_sequence, is_weekday, is_whole


def even_sevens(k):
    """Return the sevens of the day k days behind the root."""
    return (k, k, k, k, k, k, k)


def saw_sevens(w, m):
    """Return the sevens of the first day with weekday w strictly behind root + m."""
    return tuple([day_behind(rest + m, w) - rest for rest in range(7)])


def find_shape(thing):
    """Return ("even", k) or ("saw", w, m) for sevens, None for any other thing."""
    if not isinstance(thing, tuple) or len(thing) != 7 or not all([is_whole(offset) for offset in thing]):
        return None
    first = thing[0]
    if thing == even_sevens(first):
        return ("even", first)
    # At rest 0 the offset itself tells the weekday; the least offset of a saw is m + 1.
    weekday = first % 7
    ahead = min(thing) - 1
    return ("saw", weekday, ahead) if thing == saw_sevens(weekday, ahead) else None


def shape_of_sevens(sevens):
    """Return ("even", k) or ("saw", w, m), the one that fits."""
    shape = find_shape(sevens)
    if shape is None:
        raise BadSevens()
    return shape


def is_hop(thing):
    """Tell whether a thing leads from a day to a day."""
    if not isinstance(thing, tuple) or len(thing) != 2 or not isinstance(thing[0], str):
        return False
    head, entry = thing
    if head == "plus":
        return is_whole(entry) and -30 <= entry <= 30
    return head in ("coming", "last") and is_weekday(entry)


def day_led(day, hop):
    """Return the day to which a hop leads from a day."""
    head, entry = hop
    if head == "plus":
        return day + entry
    return day_behind(day, entry) if head == "coming" else day_ahead(day, entry)


def sevens_led(sevens, hop):
    """Return the sevens behind a hop, both unchecked."""
    return tuple([day_led(rest + offset, hop) - rest for rest, offset in enumerate(sevens)])


def lead_sevens(sevens, hop):
    """Return the sevens behind a hop."""
    shape_of_sevens(sevens)
    if not is_hop(hop):
        raise BadHop(0)
    return sevens_led(sevens, hop)


def led_by(hops):
    """Return the sevens to which hops lead from even 0."""
    if not is_sequence(hops):
        raise BadHop(0)
    sevens = even_sevens(0)
    for index, hop in enumerate(hops):
        if not is_hop(hop):
            raise BadHop(index)
        sevens = sevens_led(sevens, hop)
    return sevens


def rests_alike(one, other):
    """Return the rests at which two sevens are alike, ascending."""
    shape_of_sevens(one)
    shape_of_sevens(other)
    return tuple([rest for rest in range(7) if one[rest] == other[rest]])


def count_plus(days):
    """Return how many hops it takes to go so many days."""
    return (abs(days) + 29) // 30


def plus_hops(days):
    """Return a shortest list of hops that go so many days."""
    longest = 30 if days > 0 else -30
    many = count_plus(days)
    if many == 0:
        return []
    return [("plus", longest)] * (many - 1) + [("plus", days - longest * (many - 1))]


def least_hops(sevens):
    """Return a shortest row of hops that leads from even 0 to these sevens."""
    shape = shape_of_sevens(sevens)
    if shape[0] == "even":
        return tuple(plus_hops(shape[1]))
    _, weekday, ahead = shape
    if count_plus(ahead) <= count_plus(ahead + 8):
        return tuple(plus_hops(ahead) + [("coming", weekday)])
    return tuple(plus_hops(ahead + 8) + [("last", weekday)])
