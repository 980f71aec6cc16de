"""Which rests days may have, and how far they may be from one another."""

from whosetomorrow.dayposts import days_past_post, post_of
from whosetomorrow.facts import check_mark
from whosetomorrow.knowing import know


def rests_of(facts, mark):
    """Return the rests that a day mark has in the fits, ascending."""
    known = know(facts)
    post = post_of(check_mark(mark))
    past = days_past_post(mark)
    return tuple(sorted([(rest + past) % 7 for rest, _, low, high in known.bounds.cases(post, post)]))


def moved_range(low, high, days):
    """Return a range moved by so many days; None is no bound."""
    return (None if low is None else low + days, None if high is None else high + days)


def difference_of(facts, one, other):
    """Return the least and the greatest of day mark other minus day mark one over all fits."""
    known = know(facts)
    cases = known.bounds.cases(post_of(check_mark(one)), post_of(check_mark(other)))
    lows = [low for _, _, low, high in cases]
    highs = [high for _, _, low, high in cases]
    low = None if None in lows else min(lows)
    high = None if None in highs else max(highs)
    return moved_range(low, high, days_past_post(other) - days_past_post(one))


def told_difference(facts, one, other, one_rest, other_rest):
    """Return the least and the greatest difference over the fits in which the marks have these rests, or None."""
    known = know(facts)
    post = post_of(check_mark(one))
    other_post = post_of(check_mark(other))
    past = days_past_post(one)
    other_past = days_past_post(other)
    told = known.bounds.told_range(post, other_post, (one_rest - past) % 7, (other_rest - other_past) % 7)
    return None if told is None else moved_range(told[0], told[1], other_past - past)
