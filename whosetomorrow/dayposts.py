"""Day posts: the days that bounds lead between, and what facts tell of them.

The post of a date is date 0, so that all dates are counted from there; the
post of another day mark is the mark itself.
"""

ZERO = ("date", 0)


def post_of(mark):
    """Return the post of a day mark."""
    return ZERO if mark[0] == "date" else mark


def days_past_post(mark):
    """Return how many days a day mark is behind its post."""
    return mark[1] if mark[0] == "date" else 0


def leg_of(fact, number, side):
    """Return (begin, end, worth, leg) for the bound of a "between" fact on a side: end - begin is at most worth."""
    x, y, low, high = fact[1:]
    apart = days_past_post(x) - days_past_post(y)
    if side == "high":
        return (post_of(x), post_of(y), high + apart, (number, side))
    return (post_of(y), post_of(x), -low - apart, (number, side))


def legs_of(rows):
    """Return (begin, end, worth, leg) for all bounds of the facts."""
    legs = []
    for number, fact in enumerate(rows):
        if fact[0] == "between":
            if fact[4] is not None:
                legs.append(leg_of(fact, number, "high"))
            if fact[3] is not None:
                legs.append(leg_of(fact, number, "low"))
    return legs


def told_rests(rows):
    """Return the rest of date 0, and of each other post the one that the first "weekday" fact of it tells."""
    rests = {ZERO: 0}
    for fact in rows:
        if fact[0] == "weekday":
            rests.setdefault(post_of(fact[1]), fact[2])
    return rests


def find_date_clash(rows):
    """Return the number of a "weekday" fact that tells another weekday of a date, or None."""
    for number, fact in enumerate(rows):
        if fact[0] == "weekday" and fact[1][0] == "date" and fact[1][1] % 7 != fact[2]:
            return number
    return None


def find_weekday_clash(rows):
    """Return the numbers of two "weekday" facts that tell unlike weekdays of one mark, or None."""
    first = {}
    for number, fact in enumerate(rows):
        if fact[0] == "weekday":
            earlier = first.setdefault(fact[1], number)
            if rows[earlier][2] != fact[2]:
                return (earlier, number)
    return None


def lowered(bound, remainder):
    """Return the greatest number that is at most a bound and leaves this remainder by 7."""
    return bound - (bound - remainder) % 7
