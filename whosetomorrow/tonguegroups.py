"""How forms of talks hang on tongues."""

from whosetomorrow.errors import BadShift, BadTongues
from whosetomorrow.forms import form_of
from whosetomorrow.situations import Tongue, all_tongues
from whosetomorrow.talkways import word_at
from whosetomorrow.termlevels import term_said, terms_at
from whosetomorrow.words import is_absolute, is_index, is_sequence, is_unknown


def check_tongues(tongues):
    """Return the tongues as a tuple in which equal ones stand once, at the place of the first."""
    if not is_sequence(tongues) or not 1 <= len(tongues) <= 16:
        raise BadTongues(0)
    found = []
    for index, tongue in enumerate(tongues):
        if not isinstance(tongue, Tongue):
            raise BadTongues(index)
        if tongue not in found:
            found.append(tongue)
    return tuple(found)


def flipped_shifts(shifts, shift):
    """Return four truths with one of them turned."""
    return shifts[:shift] + (not shifts[shift],) + shifts[shift + 1:]


def flipped_tongue(tongue, shift):
    """Return the tongue in which this one shift is the other truth."""
    if not is_index(shift, 4):
        raise BadShift()
    person, you, today, here = flipped_shifts(tongue.shifts, shift)
    return Tongue(person, you, today, here)


def forms_by(talk, tongues):
    """Return couples (form, tongues): the tongues grouped by the form that a talk has under them."""
    forms = []
    groups = []
    for tongue in check_tongues(tongues):
        form = form_of(talk, tongue)
        if form not in forms:
            forms.append(form)
            groups.append([])
        groups[forms.index(form)].append(tongue)
    return tuple([(form, tuple(group)) for form, group in zip(forms, groups)])


def turning_shifts(found):
    """Return the shifts that can be flipped so that another thing is found; things are found by four truths."""
    return tuple([
        shift for shift in range(4)
        if any([found[shifts] != found[flipped_shifts(shifts, shift)] for shifts in found])
    ])


def shifts_of_word(talk, path, index):
    """Return the shifts that the term of the word at a word place hangs on, ascending."""
    word = word_at(talk, path, index)
    if is_unknown(word) or is_absolute(word):
        return ()
    return turning_shifts({
        tongue.shifts: term_said(terms_at(talk, path, tongue), word) for tongue in all_tongues()
    })


def shifts_that_matter(talk):
    """Return the shifts that the form of a talk hangs on, ascending."""
    return turning_shifts({tongue.shifts: form_of(talk, tongue) for tongue in all_tongues()})
