"""Promise books: what was promised, and what became of it."""

from whosetomorrow.errors import BadDeed, NoPromise
from whosetomorrow.passing import tellings_of
from whosetomorrow.promises import promise_told
from whosetomorrow.talkways import check_values, rows_of
from whosetomorrow.words import is_index, is_name, is_whole


class Promise:
    """A promise that was heard from the one who made it."""

    def __init__(self, number, name, whom, deed, date, place, said_on):
        self.number = number
        self.name = name
        self.whom = whom
        self.deed = deed
        self.date = date
        self.place = place
        self.said_on = said_on

    def __eq__(self, other):
        return isinstance(other, Promise) and self.number == other.number and told_of(self) == told_of(other)


class Hearsay:
    """A promise that others told of."""

    def __init__(self, number, tellers, name, whom, deed, date, place, said_on):
        self.number = number
        self.tellers = tellers
        self.name = name
        self.whom = whom
        self.deed = deed
        self.date = date
        self.place = place
        self.said_on = said_on

    def __eq__(self, other):
        return (
            isinstance(other, Hearsay) and self.number == other.number and self.tellers == other.tellers
            and told_of(self) == told_of(other)
        )


def told_of(promise):
    """Return all of a promise, or of hearsay, but its number and tellers."""
    return (promise.name, promise.whom, promise.deed, promise.date, promise.place, promise.said_on)


def fits_deed(promise, deed):
    """Tell whether a noted deed (name, deed, date, place) fits a promise."""
    name, done, _, place = deed
    return name == promise.name and done == promise.deed and promise.place in (None, place)


def are_at_odds(one, other):
    """Tell whether two promises are of one name and one date, but of unlike places, both told."""
    if one.name != other.name or one.date != other.date:
        return False
    return one.place is not None and other.place is not None and one.place != other.place


class PromiseBook:
    """Promises that were heard in talks in a tongue, and deeds."""

    def __init__(self, tongue):
        self.tongue = tongue
        self.made = ()
        self.spread = ()
        self.taken = ()
        self.deeds = ()

    @property
    def promises(self):
        """Return all promises by number, also those taken back."""
        return self.made

    @property
    def hearsay(self):
        """Return all hearsay by number."""
        return self.spread

    @property
    def binding(self):
        """Return the numbers of the promises that are not taken back."""
        return tuple([promise.number for promise in self.made if promise.number not in self.taken])

    def hear(self, talk, situation, values=()):
        """Hear a talk and return the numbers of its promises."""
        check_values(talk, values)
        made = []
        spread = []
        for path, row in rows_of(talk):
            told = promise_told(talk, path, situation, self.tongue, values)
            if told is None:
                continue
            name, whom, deed, date, place, said_on = told
            if len(path) == 1:
                number = len(self.made) + len(made) + 1
                made.append(Promise(number, name, whom, deed, date, place, said_on))
            else:
                number = len(self.spread) + len(spread) + 1
                tellings = tellings_of(talk, path, situation, self.tongue, values)
                tellers = tuple([who[1] for who, _, _, _ in tellings])
                spread.append(Hearsay(number, tellers, name, whom, deed, date, place, said_on))
        self.made = self.made + tuple(made)
        self.spread = self.spread + tuple(spread)
        return tuple([promise.number for promise in made])

    def take_back(self, number):
        """Take a promise back."""
        if not is_whole(number) or number not in self.binding:
            raise NoPromise(number)
        self.taken = self.taken + (number,)

    def do_deed(self, name, deed, date, *, place=None):
        """Note what a person did."""
        if not is_name(name):
            raise BadDeed("name")
        if not is_name(deed):
            raise BadDeed("deed")
        if not is_whole(date):
            raise BadDeed("date")
        if place is not None and not is_name(place):
            raise BadDeed("place")
        self.deeds = self.deeds + ((name, deed, date, place),)

    def fate_of(self, number, date):
        """Tell how a promise stands on a date."""
        if not is_whole(number) or not is_index(number - 1, len(self.made)):
            raise NoPromise(number)
        if not is_whole(date):
            raise BadDeed("date")
        promise = self.made[number - 1]
        done = [deed[2] for deed in self.deeds if fits_deed(promise, deed) and deed[2] <= date]
        if number in self.taken:
            return "back"
        if promise.date in done:
            return "kept"
        if date <= promise.date:
            return "ahead" if date < promise.date else "due"
        return "late" if any([day > promise.date for day in done]) else "broken"

    def clashing(self):
        """Return the couples of numbers of binding promises that cannot both be kept."""
        bound = [promise for promise in self.made if promise.number not in self.taken]
        return tuple([
            (one.number, other.number) for at, one in enumerate(bound) for other in bound[at + 1:]
            if are_at_odds(one, other)
        ])

    def borne_out(self):
        """Return the couples (number of hearsay, number of a promise) that tell the same."""
        return tuple([
            (told.number, promise.number) for told in self.spread for promise in self.made
            if told_of(told) == told_of(promise)
        ])

    def __len__(self):
        return len(self.binding)

    def __iter__(self):
        return iter(self.made)
