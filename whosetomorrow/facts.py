"""Facts: what is known of the situation and of unknown parts."""

from whosetomorrow.errors import BadFact, BadTerm, NoFact
from whosetomorrow.terms import find_term_kind, is_root, root_value, value_of
from whosetomorrow.words import is_index, is_sequence, is_weekday, is_whole


def is_mark(thing):
    """Tell whether a thing is a day mark."""
    return is_root(thing) or (find_term_kind(thing) == "day" and thing[0] == "date")


def check_mark(mark):
    """Return the day mark itself."""
    if not is_mark(mark):
        raise BadTerm()
    return mark


def is_bound(thing):
    """Tell whether a thing is a whole number or None."""
    return thing is None or is_whole(thing)


def is_fact(thing):
    """Tell whether a thing is a fact."""
    if not isinstance(thing, tuple) or len(thing) not in (3, 5) or not isinstance(thing[0], str):
        return False
    head, one, other = thing[:3]
    if len(thing) == 5:
        return head == "between" and is_mark(one) and is_mark(other) and is_bound(thing[3]) and is_bound(thing[4])
    if head == "weekday":
        return is_mark(one) and is_weekday(other)
    kind = find_term_kind(one)
    return head in ("same", "unlike") and kind in ("person", "place") and find_term_kind(other) == kind


def check_fact(fact):
    """Return the fact itself."""
    if not is_fact(fact):
        raise BadFact(0)
    return fact


class Facts:
    """Up to eight facts."""

    def __init__(self, rows):
        if not is_sequence(rows):
            raise BadFact(0)
        for index, fact in enumerate(rows[:8]):
            if not is_fact(fact):
                raise BadFact(index)
        if len(rows) > 8:
            raise BadFact(8)
        self.rows = tuple(rows)

    def with_fact(self, fact):
        """Return the facts with one more at the end."""
        return Facts(self.rows + (fact,))

    def without_fact(self, number):
        """Return the facts without the one of this number."""
        if not is_index(number, len(self.rows)):
            raise NoFact(number)
        return Facts(self.rows[:number] + self.rows[number + 1:])

    def __len__(self):
        return len(self.rows)

    def __iter__(self):
        return iter(self.rows)

    def __eq__(self, other):
        return isinstance(other, Facts) and self.rows == other.rows


def mark_day(mark, situation, values):
    """Return the day of a day mark in a situation with values."""
    return mark[1] if mark[0] == "date" else root_value(mark, situation, values)


def is_within(number, low, high):
    """Tell whether a number is at least low and at most high; None is no bound."""
    return (low is None or number >= low) and (high is None or number <= high)


def is_true_at(fact, situation, values=()):
    """Tell whether a fact is true in a situation with values."""
    check_fact(fact)
    head = fact[0]
    if head == "weekday":
        return mark_day(fact[1], situation, values) % 7 == fact[2]
    if head == "between":
        day = mark_day(fact[1], situation, values)
        return is_within(mark_day(fact[2], situation, values) - day, fact[3], fact[4])
    one = value_of(fact[1], situation, values)
    other = value_of(fact[2], situation, values)
    return (one == other) == (head == "same")


def first_untrue(facts, situation, values=()):
    """Return the number of the first fact that is not true in a situation with values, or None."""
    for number, fact in enumerate(facts):
        if not is_true_at(fact, situation, values):
            return number
    return None


def mark_along(mark, days):
    """Return the day mark that stands for the same when all happens so many days later."""
    return (mark[0], mark[1] + days) if mark[0] == "date" else mark


def fact_along(fact, days):
    """Return the fact that tells the same when all happens so many days later."""
    if fact[0] == "weekday":
        return ("weekday", mark_along(fact[1], days), (fact[2] + days) % 7)
    if fact[0] == "between":
        return ("between", mark_along(fact[1], days), mark_along(fact[2], days), fact[3], fact[4])
    return fact


def facts_along(facts, days):
    """Return the facts that tell the same when all happens so many days later."""
    return Facts([fact_along(fact, days) for fact in facts])
