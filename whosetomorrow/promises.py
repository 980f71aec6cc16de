"""Promises: plain sayings of those who will do what they say."""

from whosetomorrow.forms import form_of
from whosetomorrow.found import Never, cases_of, judged
from whosetomorrow.hearing import level_at
from whosetomorrow.knowing import know_more
from whosetomorrow.levels import said_at
from whosetomorrow.passing import tellings_of, told_parts
from whosetomorrow.talks import Plain
from whosetomorrow.talkways import check_values, row_at, rows_of
from whosetomorrow.words import kind_of

KINDS = ("person", "day", "place")


def first_indices(row):
    """Return for each kind the index of the first word of this kind in a plain saying."""
    found = {}
    for index, word in enumerate(row.words):
        found.setdefault(kind_of(word), index)
    return found


def told_by_kind(row, level):
    """Return for each kind the meaning of the first word of this kind in a plain saying at a level."""
    indices = first_indices(row)
    return {kind: said_at(level, row.words[indices[kind]]) for kind in indices}


def promise_told(talk, path, situation, tongue, values):
    """Return (name, whom, deed, date, place, day on which it is said) if a row is a promise, otherwise None."""
    row = row_at(talk, path)
    check_values(talk, values)
    if not isinstance(row, Plain):
        return None
    told = told_by_kind(row, level_at(talk, path, situation, tongue, values))
    who, whom, day, _ = tellings_of(talk, path, situation, tongue, values)[-1]
    if told.get("person") != who or "day" not in told or told["day"][1] < day[1]:
        return None
    place = told["place"][1] if "place" in told else None
    return (who[1], whom[1], row.deed, told["day"][1], place, day[1])


def is_promise(talk, path, reading):
    """Tell whether the row at a path is a promise in a reading."""
    return promise_told(talk, path, reading.situation, reading.tongue, reading.value_rows) is not None


def do_clash(talk, path, other, reading):
    """Tell whether two rows are plain sayings of one person and one day, but of unlike places, in a reading."""
    rows = (row_at(talk, path), row_at(talk, other))
    check_values(talk, reading.value_rows)
    if not all([isinstance(row, Plain) for row in rows]):
        return False
    level = level_at(talk, path, reading.situation, reading.tongue, reading.value_rows)
    other_level = level_at(talk, other, reading.situation, reading.tongue, reading.value_rows)
    told = told_by_kind(rows[0], level)
    other_told = told_by_kind(rows[1], other_level)
    if not all([kind in told and kind in other_told for kind in KINDS]):
        return False
    return (
        told["person"] == other_told["person"] and told["day"] == other_told["day"]
        and told["place"] != other_told["place"]
    )


def terms_by_index(form, path, indices, kinds):
    """Return the terms of a plain saying of a form for these kinds of words."""
    terms = told_parts(form, path)
    return [terms[indices[kind]] for kind in kinds]


def fit_with(known, more, one, other, low, high):
    """Return a fit in which more facts are true and day term other is from low to high days behind one, or None."""
    both = know_more(known.rows, more)
    return None if both is None else both.fit_within(one, other, low, high)


def promised(known, terms):
    """Return a fit in which a saying with these terms is a promise, or None."""
    person, day, who, told_day = terms
    return fit_with(known, [("same", person, who)], told_day, day, 0, None)


def not_promised(known, terms):
    """Return a fit in which a saying with these terms is no promise, or None."""
    person, day, who, told_day = terms
    fit = known.parting_fit(person, who)
    return known.fit_within(told_day, day, None, -1) if fit is None else fit


def promise_case(found, path):
    """Return whether the row at a path is a promise in all, in none or in some readings."""
    row = row_at(found.talk, path)
    indices = first_indices(row) if isinstance(row, Plain) else {}
    if "person" not in indices or "day" not in indices:
        return Never()

    def terms_for(tongue):
        form = form_of(found.talk, tongue)
        around = told_parts(form, path[:-1])
        return terms_by_index(form, path, indices, ("person", "day")) + [around[0], around[2]]

    cases = cases_of(found, terms_for)
    return judged(
        cases, lambda terms: promised(found.known, terms), lambda others: not_promised(found.known, others))


def clashed(known, terms):
    """Return a fit in which two sayings with these terms clash, or None."""
    person, day, place, other_person, other_day, other_place = terms
    more = [("same", person, other_person), ("unlike", place, other_place)]
    return fit_with(known, more, day, other_day, 0, 0)


def not_clashed(known, terms):
    """Return a fit in which two sayings with these terms do not clash, or None."""
    person, day, place, other_person, other_day, other_place = terms
    fit = known.parting_fit(person, other_person)
    if fit is None:
        fit = known.parting_fit(day, other_day)
    if fit is None:
        one_place = know_more(known.rows, [("same", place, other_place)])
        fit = None if one_place is None else one_place.any_fit(())
    return fit


def clash_case(found, path, other):
    """Return whether two rows clash in all, in none or in some readings."""
    rows = (row_at(found.talk, path), row_at(found.talk, other))
    indices = [first_indices(row) if isinstance(row, Plain) else {} for row in rows]
    if not all([kind in found_there for found_there in indices for kind in KINDS]):
        return Never()

    def terms_for(tongue):
        form = form_of(found.talk, tongue)
        return terms_by_index(form, path, indices[0], KINDS) + terms_by_index(form, other, indices[1], KINDS)

    cases = cases_of(found, terms_for)
    return judged(
        cases, lambda terms: clashed(found.known, terms), lambda others: not_clashed(found.known, others))


def promise_cases(found):
    """Yield (path, case) for all plain sayings in the order of reading."""
    for path, row in rows_of(found.talk):
        if isinstance(row, Plain):
            yield (path, promise_case(found, path))
