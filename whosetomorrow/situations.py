"""Tongues and situations."""

from whosetomorrow.errors import BadSituation, BadTongue
from whosetomorrow.words import is_name, is_whole


class Tongue:
    """Tells of I, you, today and here whether they shift in indirect reports."""

    def __init__(self, person, you, today, here):
        shifts = (person, you, today, here)
        if not all([isinstance(shift, bool) for shift in shifts]):
            raise BadTongue()
        self.shifts_person = person
        self.shifts_you = you
        self.shifts_today = today
        self.shifts_here = here
        self.shifts = shifts

    def __eq__(self, other):
        return isinstance(other, Tongue) and self.shifts == other.shifts


def all_tongues():
    """Return the sixteen tongues; False comes first, the last shift changes fastest."""
    truths = (False, True)
    return tuple([
        Tongue(person, you, today, here)
        for person in truths for you in truths for today in truths for here in truths
    ])


def check_names(one, other):
    """Refuse two names to exchange if one of them is no name."""
    if not is_name(one) or not is_name(other):
        raise BadSituation("name")


def exchange_name(name, one, other):
    """Return the other one of two names, and any other name as it is."""
    check_names(one, other)
    if name == one:
        return other
    if name == other:
        return one
    return name


class Situation:
    """Who tells whom, on which day, at which place."""

    def __init__(self, teller, hearer, day, place):
        if not is_name(teller):
            raise BadSituation("teller")
        if not is_name(hearer):
            raise BadSituation("hearer")
        if not is_whole(day):
            raise BadSituation("day")
        if not is_name(place):
            raise BadSituation("place")
        self.teller = teller
        self.hearer = hearer
        self.day = day
        self.place = place

    def moved(self, days):
        """Return the situation so many days later."""
        if not is_whole(days):
            raise BadSituation("day")
        return Situation(self.teller, self.hearer, self.day + days, self.place)

    def exchanged(self, one, other):
        """Return the situation with two names exchanged in teller and hearer."""
        teller = exchange_name(self.teller, one, other)
        hearer = exchange_name(self.hearer, one, other)
        return Situation(teller, hearer, self.day, self.place)

    def __eq__(self, other):
        return (
            isinstance(other, Situation) and self.teller == other.teller and self.hearer == other.hearer
            and self.day == other.day and self.place == other.place
        )
