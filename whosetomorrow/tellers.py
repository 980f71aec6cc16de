"""Which tongue it is: what talks tell of tongues."""

from whosetomorrow.alike import parting_situation
from whosetomorrow.choices import number_sets
from whosetomorrow.errors import BadSample, BadTalks
from whosetomorrow.forms import form_of, terms_in
from whosetomorrow.hearing import hear_talk
from whosetomorrow.situations import Tongue
from whosetomorrow.strangers import unlike_situation
from whosetomorrow.talks import Talk
from whosetomorrow.talkways import check_values, names_in, places_in
from whosetomorrow.tonguegroups import check_tongues, forms_by
from whosetomorrow.words import is_sequence

MOST_TALKS = 8


def check_samples(samples):
    """Refuse what is no list or tuple of samples."""
    if not is_sequence(samples) or len(samples) > MOST_TALKS:
        raise BadSample(0)
    for index, sample in enumerate(samples):
        if not is_sequence(sample) or len(sample) != 4:
            raise BadSample(index)


def fits_samples(samples, tongue):
    """Tell whether each sample's talk is heard as told under a tongue."""
    for talk, situation, values, heard in samples:
        if not hear_talk(talk, situation, tongue, values) == heard:
            return False
    return True


def fitting_tongues(samples, tongues):
    """Return those of the tongues under which each sample's talk is heard as told."""
    check_samples(samples)
    used = check_tongues(tongues)
    for talk, situation, values, heard in samples:
        check_values(talk, values)
    return tuple([tongue for tongue in used if fits_samples(samples, tongue)])


def check_talks(talks):
    """Refuse what is no list or tuple of up to eight talks."""
    if not is_sequence(talks) or len(talks) > MOST_TALKS:
        raise BadTalks(0)
    for index, talk in enumerate(talks):
        if not isinstance(talk, Talk):
            raise BadTalks(index)


def group_numbers(talk, tongues):
    """Return for each of the tongues the number of its group by the forms of a talk."""
    groups = forms_by(talk, tongues)
    numbers = []
    for tongue in tongues:
        numbers.extend([number for number, (form, group) in enumerate(groups) if tongue in group])
    return numbers


def groups_of_talks(talks, tongues):
    """Return for each talk a row of the groups of the tongues; refuse what are no talks, then no tongues."""
    check_talks(talks)
    used = check_tongues(tongues)
    return (used, [group_numbers(talk, used) for talk in talks])


def untold_pair(talks, tongues):
    """Return the first pair of the tongues that the talks do not tell apart, or None."""
    used, groups = groups_of_talks(talks, tongues)
    for one in range(len(used)):
        for other in range(one + 1, len(used)):
            if all([row[one] == row[other] for row in groups]):
                return (used[one], used[other])
    return None


def tell_all(groups, count):
    """Tell whether rows of groups tell each two of so many tongues apart."""
    marks = [tuple([row[at] for row in groups]) for at in range(count)]
    return len(set(marks)) == count


def least_tellers(talks, tongues):
    """Return all least sets of numbers of talks that tell each two of the tongues apart."""
    used, groups = groups_of_talks(talks, tongues)
    found = []
    for numbers in number_sets(len(talks)):
        within = [all([number in numbers for number in less]) for less in found]
        if not any(within) and tell_all([groups[number] for number in numbers], len(used)):
            found.append(numbers)
    return tuple(found)


def turned_day(talk):
    """Return the two terms of the first day word that hangs on whether today shifts, or None."""
    form = form_of(talk, Tongue(False, False, False, False))
    other_form = form_of(talk, Tongue(False, False, True, False))
    for (path, index, term), (_, _, other) in zip(terms_in(form), terms_in(other_form)):
        if term != other:
            return (term, other)
    return None


def telling_situation(talks):
    """Return a situation with values for each talk that tells all tongues that the talks can tell apart."""
    check_talks(talks)
    names = []
    places = []
    pairs = []
    for talk in talks:
        names.extend(names_in(talk))
        places.extend(places_in(talk))
        pairs.append(turned_day(talk))
    pairs = [pair for pair in pairs if pair is not None]
    if pairs:
        one, other = pairs[0]
        situation, rows = parting_situation(one, other, names, places)
    else:
        situation, rows = unlike_situation(names, places, ("D",), 0)
    return (situation, tuple([rows for talk in talks]))
