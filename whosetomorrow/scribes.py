"""Scribes who hand talks on by a book."""

from whosetomorrow.bookrules import check_rules, holding_rule, numbered_rules, written_day, written_name
from whosetomorrow.errors import BadStep, BadWord, HasReport
from whosetomorrow.levels import outer_level, said_at
from whosetomorrow.situations import Situation
from whosetomorrow.talkways import report_paths, with_words, words_of
from whosetomorrow.words import find_kind, is_name, is_unknown, is_whole, needs_report


class Step:
    """A handing on: how much later, to whom, at which place."""

    def __init__(self, delay, hearer, place):
        if not is_whole(delay) or delay < 0:
            raise BadStep("delay")
        if not is_name(hearer):
            raise BadStep("hearer")
        if not is_name(place):
            raise BadStep("place")
        self.delay = delay
        self.hearer = hearer
        self.place = place

    def __eq__(self, other):
        return (
            isinstance(other, Step) and self.delay == other.delay and self.hearer == other.hearer
            and self.place == other.place
        )


class Book:
    """The rules by which scribes write words anew."""

    def __init__(self, days, persons, places):
        check_rules(days, persons, places)
        self.days = tuple([tuple(rule) for rule in days])
        self.persons = tuple([tuple(rule) for rule in persons])
        self.places = tuple([tuple(rule) for rule in places])
        self.rules = self.days + self.persons + self.places

    @classmethod
    def plain(cls):
        """Return the book without rules."""
        return cls((), (), ())

    def without(self, numbers):
        """Return the book without the rules of these numbers."""
        struck = [number for number in numbers if is_whole(number)]
        kept = [
            [rule for number, rule in numbered_rules(self, kind) if number not in struck]
            for kind in ("day", "person", "place")
        ]
        return Book(kept[0], kept[1], kept[2])

    def __len__(self):
        return len(self.rules)

    def __iter__(self):
        return iter(self.rules)

    def __eq__(self, other):
        return (
            isinstance(other, Book) and self.days == other.days and self.persons == other.persons
            and self.places == other.places
        )


def is_chain_word(thing):
    """Tell whether a thing is a word that scribes hand on."""
    return find_kind(thing) is not None and not is_unknown(thing) and not needs_report(thing)


def chain_kind(word):
    """Return the kind of a chain word; refuse all others."""
    if not is_chain_word(word):
        raise BadWord()
    return find_kind(word)


def new_situation(situation, step):
    """Return the situation behind a step."""
    return Situation(situation.hearer, step.hearer, situation.day + step.delay, step.place)


def case_of(kind, meaning, situation, step):
    """Return the case of a step for a word of a kind with this meaning."""
    thing = meaning[1]
    if kind == "day":
        return (thing - situation.day, step.delay)
    if kind == "person":
        return (thing == situation.hearer, thing == step.hearer)
    return (thing == step.place,)


def rule_used(book, word, situation, step):
    """Return the number of the rule that holds for a word at a step, or None."""
    kind = chain_kind(word)
    case = case_of(kind, said_at(outer_level(situation), word), situation, step)
    found = holding_rule(numbered_rules(book, kind), kind, word[0], case)
    return None if found is None else found[0]


def written_word(book, word, situation, step):
    """Return the word that a scribe writes for a word at a step."""
    kind = chain_kind(word)
    meaning = said_at(outer_level(situation), word)
    case = case_of(kind, meaning, situation, step)
    found = holding_rule(numbered_rules(book, kind), kind, word[0], case)
    if found is None:
        return meaning
    action = found[1][-1]
    if kind != "day":
        sort = written_name(action, word[0])
        return meaning if sort in ("name", "place") else (sort,)
    sort, k = written_day(action, word[0], case)
    if sort == "date":
        return meaning
    return ("today", k) if sort == "today" else (sort, meaning[1] % 7)


def word_chain(book, word, situation, steps):
    """Yield the words behind the steps, one for each."""
    chain_kind(word)
    now = word
    here = situation
    for step in steps:
        now = written_word(book, now, here, step)
        here = new_situation(here, step)
        yield now


def refuse_reports(talk):
    """Refuse a talk with reports."""
    for path in report_paths(talk):
        raise HasReport(path)


def words_written(book, words, situation, step):
    """Return the words that a scribe writes for all words of a talk at a step."""
    return [written_word(book, word, situation, step) for word in words]


def handed_on(talk, situation, book, steps):
    """Return the talk and the situation behind all steps."""
    refuse_reports(talk)
    words = [word for path, index, word in words_of(talk)]
    here = situation
    for step in steps:
        words = words_written(book, words, here, step)
        here = new_situation(here, step)
    return (with_words(talk, words), here)


def first_wrong(talk, situation, book, steps):
    """Return (number of the step, path, index) of the first word that does not mean what it meant at first, or None."""
    refuse_reports(talk)
    places = [(path, index) for path, index, word in words_of(talk)]
    words = [word for path, index, word in words_of(talk)]
    meant = [said_at(outer_level(situation), word) for word in words]
    here = situation
    for number, step in enumerate(steps):
        words = words_written(book, words, here, step)
        here = new_situation(here, step)
        level = outer_level(here)
        for at, (path, index) in enumerate(places):
            if said_at(level, words[at]) != meant[at]:
                return (number, path, index)
    return None
