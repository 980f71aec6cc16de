"""Rewordings: talks of one shape that are heard alike in every fit."""

from whosetomorrow.choices import choices_in_order, count_choices
from whosetomorrow.errors import BadManners, NoWord
from whosetomorrow.forms import form_of
from whosetomorrow.knowing import know
from whosetomorrow.levels import inner_level
from whosetomorrow.rightwords import is_right_at, right_among
from whosetomorrow.sure import find_unsure
from whosetomorrow.talks import Plain, is_manner, own_words
from whosetomorrow.talkways import remade_talk, rows_of, told_manners
from whosetomorrow.termlevels import outer_terms
from whosetomorrow.toldrows import things_of
from whosetomorrow.words import is_sequence, is_unknown, kind_of


class Differs:
    """The first word place at which a talk is no rewording of another one, and a fit that shows it."""

    def __init__(self, path, index, situation, value_rows):
        self.path = path
        self.index = index
        self.situation = situation
        self.value_rows = value_rows

    def __eq__(self, other):
        return (
            isinstance(other, Differs) and self.path == other.path and self.index == other.index
            and self.situation == other.situation and self.value_rows == other.value_rows
        )


def manners_of(talk):
    """Return the manners of all reports by their numbers."""
    return told_manners(talk)


def check_manners(talk, manners):
    """Return manners for all reports of a talk; None stands for its own."""
    if manners is None:
        return told_manners(talk)
    if not is_sequence(manners):
        raise BadManners(0)
    for number in range(talk.reports):
        if number >= len(manners) or not is_manner(manners[number]):
            raise BadManners(number)
    if len(manners) > talk.reports:
        raise BadManners(talk.reports)
    return tuple(manners)


def places_below(rows, form, level, number, manners, tongue, path):
    """Return (path, index, word, term, level) for all word places of the rows of the report at a path.

    The terms are those of the form. The rows stand at this level; the first report in them has this number;
    within reports the levels are those of these manners and this tongue.
    """
    found = []
    report = number
    for at, row in enumerate(rows):
        here = path + (at,)
        terms = things_of(form[at])
        for index, word in enumerate(own_words(row)):
            found.append((here, index, word, terms[index], level))
        if row.reports > 0:
            inner = inner_level(level, terms, manners[report], tongue)
            found.extend(places_below(row.rows, form[at][6], inner, report + 1, manners, tongue, here))
            report = report + row.reports
    return found


class Chooser:
    """Chooses words for the places of a talk, spoken in a tongue, if it is spoken in another one with other manners."""

    def __init__(self, talk, tongue, facts, menu):
        self.known = know(facts)
        self.menu = menu
        self.talk = talk
        self.form = form_of(talk, tongue)
        self.told = {}

    def word_places(self, into, manners):
        """Return (path, index, word, term, level) for all word places, with the terms that they have."""
        return places_below(self.talk.rows, self.form, outer_terms(), 0, manners, into, ())

    def right_words(self, word, term, level):
        """Return the words of the menu that are right for the term of a word at a level."""
        if (level, term) not in self.told:
            self.told[(level, term)] = right_among(self.known, level, term, self.menu.words_for(kind_of(word)))
        return self.told[(level, term)]

    def choices(self, word, term, level):
        """Return the words that may stand in the place of a word; an unknown one stays."""
        if is_unknown(word):
            return (word,)
        right = self.right_words(word, term, level)
        if not is_right_at(self.known, level, term, word):
            return tuple(right)
        return (word,) + tuple([other for other in right if other != word])

    def choice_places(self, into, manners):
        """Return (path, index, word, choices) for all word places."""
        return [
            (path, index, word, self.choices(word, term, level))
            for path, index, word, term, level in self.word_places(into, manners)
        ]


def all_choices(talk, tongue, facts, menu, into, manners):
    """Return (path, index, word, choices) for all word places of a talk, and its new manners."""
    chooser = Chooser(talk, tongue, facts, menu)
    new_manners = check_manners(talk, manners)
    return (chooser.choice_places(tongue if into is None else into, new_manners), new_manners)


def choice_rows(talk, tongue, facts, menu, *, into=None, manners=None):
    """Return (path, index, choices) for all word places with a known word."""
    rows, _ = all_choices(talk, tongue, facts, menu, into, manners)
    return tuple([(path, index, choices) for path, index, word, choices in rows if not is_unknown(word)])


def count_rewordings(talk, tongue, facts, menu, *, into=None, manners=None):
    """Return the number of rewordings whose words are choices."""
    rows, _ = all_choices(talk, tongue, facts, menu, into, manners)
    return count_choices([choices for path, index, word, choices in rows])


def all_rewordings(talk, tongue, facts, menu, *, into=None, manners=None):
    """Yield the rewordings whose words are choices; the word at the last place changes fastest."""
    rows, new_manners = all_choices(talk, tongue, facts, menu, into, manners)
    choices = [row[3] for row in rows]
    for words in choices_in_order(choices):
        yield remade_talk(talk, words, new_manners)


def places_without(rows):
    """Return the word places without a choice."""
    return tuple([(path, index) for path, index, word, choices in rows if len(choices) == 0])


def reworded(talk, tongue, facts, menu, *, into=None, manners=None):
    """Return the first rewording."""
    rows, new_manners = all_choices(talk, tongue, facts, menu, into, manners)
    for path, index in places_without(rows):
        raise NoWord(path, index)
    return remade_talk(talk, [choices[0] for path, index, word, choices in rows], new_manners)


def unsayable(talk, tongue, facts, menu, *, into=None, manners=None):
    """Return all word places without a choice."""
    rows, _ = all_choices(talk, tongue, facts, menu, into, manners)
    return places_without(rows)


def possible_manners(talk, tongue, facts, menu, *, into=None):
    """Yield all manners of the reports with which there is a rewording; the last one changes fastest."""
    chooser = Chooser(talk, tongue, facts, menu)
    new_tongue = tongue if into is None else into
    choices = [("own", "indirect")] * talk.reports
    for manners in choices_in_order(choices):
        if places_without(chooser.choice_places(new_tongue, manners)) == ():
            yield manners


def shape_of(row):
    """Return what two rows of one shape have alike, but for the rows within."""
    words = [(kind_of(word), is_unknown(word)) for word in own_words(row)]
    return ("plain", row.deed, words) if isinstance(row, Plain) else ("report", "", words)


def have_one_shape(one, other):
    """Tell whether two talks have one shape."""
    shapes = [(path, shape_of(row)) for path, row in rows_of(one)]
    return shapes == [(path, shape_of(row)) for path, row in rows_of(other)]


def rewording_fault(old, new, tongue, facts, *, into=None):
    """Return None if a talk is a rewording of an old one, otherwise what is wrong with it."""
    known = know(facts)
    if not have_one_shape(old, new):
        return "shape"
    found = find_unsure(known, form_of(old, tongue), form_of(new, tongue if into is None else into), True)
    if found is None:
        return None
    path, index, fit = found
    return Differs(path, index, fit[0], fit[1])


def normal_talk(talk, tongue, facts, menu):
    """Return the talk with the first right word of the menu in the place of each known word that has one."""
    chooser = Chooser(talk, tongue, facts, menu)
    manners = told_manners(talk)
    words = []
    for path, index, word, term, level in chooser.word_places(tongue, manners):
        right = [] if is_unknown(word) else chooser.right_words(word, term, level)
        words.append(right[0] if right else word)
    return remade_talk(talk, words, manners)
