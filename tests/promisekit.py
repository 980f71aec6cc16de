"""What the tests of promises share: promises told as the document tells them."""

from tests.letterkit import heard_in
from tests.talkkit import heard_at, heard_row
from whosetomorrow.talks import Plain
from whosetomorrow.talkways import row_at
from whosetomorrow.words import find_kind


def first_places(talk, path):
    """Return the indices of the first words of each kind of a plain saying."""
    row = row_at(talk, path)
    found = {}
    if isinstance(row, Plain):
        for index, word in enumerate(row.words):
            found.setdefault(find_kind(word), index)
    return found


def told_promise(talk, path, reading):
    """Return (name, whom, deed, date, place, day on which it is said) of a promise, or None."""
    places = first_places(talk, path)
    if "person" not in places or "day" not in places:
        return None
    heard = heard_in(talk, reading)
    name, date = heard_at(heard, path, places["person"])[1], heard_at(heard, path, places["day"])[1]
    place = heard_at(heard, path, places["place"])[1] if "place" in places else None
    who, whom, said_on = reading.situation.teller, reading.situation.hearer, reading.situation.day
    if len(path) > 1:
        who, whom, said_on = [meaning[1] for meaning in heard_row(heard, path[:-1])[1:4]]
    return (name, whom, row_at(talk, path).deed, date, place, said_on) if name == who and date >= said_on else None


def told_clash(talk, path, other, reading):
    """Tell whether two rows clash."""
    places, other_places = first_places(talk, path), first_places(talk, other)
    if len(places) < 3 or len(other_places) < 3:
        return False
    heard = heard_in(talk, reading)
    alike = [
        heard_at(heard, path, places[kind]) == heard_at(heard, other, other_places[kind])
        for kind in ("person", "day", "place")]
    return alike == [True, True, False]
