"""Mends: the least changes behind which all wishes of a found letter hold."""

from whosetomorrow.changes import apply_changes, check_changes
from whosetomorrow.choices import is_ascending, number_sets
from whosetomorrow.errors import BadChange, NoLetter
from whosetomorrow.wishes import Miss, check_wishes, find_miss, miss_fault
from whosetomorrow.words import is_index, is_sequence

MOST_CHANGES = 5


class Mends:
    """All least choices of changes, and why all choices without one of them within are not good."""

    def __init__(self, least, misses):
        self.least = least
        self.misses = misses

    @property
    def needed(self):
        """Return the places that are in every least choice, ascending."""
        if len(self.least) == 0:
            return ()
        return tuple([place for place in self.least[0] if all([place in choice for choice in self.least])])

    def __eq__(self, other):
        return isinstance(other, Mends) and self.least == other.least and self.misses == other.misses


class Spoiler:
    """A least choice with a place that, added, leaves it no longer good, and why."""

    def __init__(self, choice, added, why):
        self.choice = choice
        self.added = added
        self.why = why

    def __eq__(self, other):
        return (
            isinstance(other, Spoiler) and self.choice == other.choice and self.added == other.added
            and self.why == other.why
        )


def check_pool(found, wishes, pool):
    """Refuse what are no wishes of a letter, then what is no pool of changes."""
    check_wishes(found, wishes)
    if not is_sequence(pool) or not 1 <= len(pool) <= MOST_CHANGES:
        raise BadChange(0, "pool")
    check_changes(found, pool)


def is_inside(choice, other):
    """Tell whether a choice lies within another one or is equal to it."""
    return all([place in other for place in choice])


def has_inside(choice, others):
    """Tell whether one of other choices lies within a choice or is equal to it."""
    return any([is_inside(other, choice) for other in others])


def why_not(found, wishes, pool, choice):
    """Return None if a choice is good, otherwise the word of the NoLetter or a Miss."""
    try:
        letter = apply_changes(found, [pool[place] for place in choice])
    except NoLetter as error:
        return error.what
    return find_miss(letter, wishes)


def find_mends(found, wishes, pool):
    """Return the least choices of a pool behind which all wishes hold, and why all others are not good."""
    check_pool(found, wishes, pool)
    least = []
    misses = []
    for choice in number_sets(len(pool)):
        if not has_inside(choice, least):
            why = why_not(found, wishes, pool, choice)
            if why is None:
                least.append(choice)
            else:
                misses.append((choice, why))
    return Mends(tuple(least), tuple(misses))


def are_choices(things, pool):
    """Tell whether things are a tuple of choices of a pool in their order, none twice."""
    if not isinstance(things, tuple):
        return False
    for choice in things:
        if not isinstance(choice, tuple) or not all([is_index(place, len(pool)) for place in choice]):
            return False
    every = number_sets(len(pool))
    if not all([choice in every for choice in things]):
        return False
    return is_ascending([every.index(choice) for choice in things])


def are_pairs(things):
    """Tell whether things are a tuple of pairs."""
    if not isinstance(things, tuple):
        return False
    return all([isinstance(pair, tuple) and len(pair) == 2 for pair in things])


def is_right_why(found, wishes, pool, choice, why):
    """Tell whether this is why a choice is not good."""
    try:
        letter = apply_changes(found, [pool[place] for place in choice])
    except NoLetter as error:
        return why == error.what
    return isinstance(why, Miss) and miss_fault(letter, wishes, why) is None


def mends_fault(found, wishes, pool, mends):
    """Return None if mends are right, otherwise what is wrong with them."""
    check_pool(found, wishes, pool)
    least = mends.least
    if not are_pairs(mends.misses):
        return "order"
    missed = tuple([pair[0] for pair in mends.misses])
    if not are_choices(least, pool) or not are_choices(missed, pool):
        return "order"
    for choice in least:
        others = [other for other in least if other != choice] + list(missed)
        if any([is_inside(choice, other) for other in others]):
            return "within"
    if not all([choice in missed or has_inside(choice, least) for choice in number_sets(len(pool))]):
        return "lacking"
    if not all([why_not(found, wishes, pool, choice) is None for choice in least]):
        return "least"
    rights = [is_right_why(found, wishes, pool, choice, why) for choice, why in mends.misses]
    return None if all(rights) else "why"


def find_spoilers(found, wishes, pool):
    """Return for each least choice the places that, added, leave it no longer good, and why."""
    spoilers = []
    for choice in find_mends(found, wishes, pool).least:
        for added in range(len(pool)):
            why = None
            if added not in choice:
                why = why_not(found, wishes, pool, tuple(sorted(choice + (added,))))
            if why is not None:
                spoilers.append(Spoiler(choice, added, why))
    return tuple(spoilers)
