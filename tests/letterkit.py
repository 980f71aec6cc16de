"""What the tests of found letters share: small letters, and all their readings gone through."""

import random

from tests.factkit import FactCase, day_fits, name_fits
from tests.helper import TONGUES, told_talk
from tests.talkkit import heard_at
from whosetomorrow.clashes import find_clash
from whosetomorrow.facts import Facts
from whosetomorrow.found import Both, FoundLetter, Never, Reading, Sure, reading_fits
from whosetomorrow.situations import Situation
from whosetomorrow.talks import Plain, Report, Talk
from whosetomorrow.talkways import report_paths, words_of
from whosetomorrow.words import find_kind

NAMES = ["ann", "bob", "sa", "sb", "sc", "sd"]
SPOTS = ["rome", "sa", "sb", "sc"]
PERSONS = [("T",), ("H",), ("who", 0), ("whom", 0)]
PLACES = [("Z",), ("where", 0)]
DAYS = [("D",), ("day", 0)]
NONE = Facts([])


def small_word(rng, kind, indirect, unknown=False):
    """Return a random word with small numbers and few names."""
    if unknown and rng.random() < 0.45:
        return {"person": ("somebody",), "day": ("one day",), "place": ("somewhere",)}[kind]
    words = {
        "person": [("I",), ("you",), ("name", "ann")],
        "day": [("today", rng.randint(-2, 2)), ("coming", rng.randint(0, 6)), ("last", rng.randint(0, 6)),
                ("date", rng.randint(-3, 3))],
        "place": [("here",), ("place", "rome")],
    }[kind]
    if indirect:
        words = words + {
            "person": [("self",), ("told",)],
            "day": [("that day", rng.randint(-2, 2)), ("then coming", rng.randint(0, 6)), ("then last", rng.randint(0, 6))],
            "place": [("there",)],
        }[kind]
    return rng.choice(words)


def small_plain(rng, indirect):
    """Return a random plain saying; most have a person word and a day word."""
    kinds = rng.choice([
        ["person", "day"], ["person", "day", "place"], ["day", "person", "day", "place"], ["place", "person"], ["day"], []])
    return Plain(rng.choice(["come", "go"]), [small_word(rng, kind, indirect) for kind in kinds])


def small_report(rng, indirect, rows, manner, unknown):
    """Return a random report; only one of a talk may have unknown parts."""
    parts = [small_word(rng, kind, indirect, unknown) for kind in ("person", "person", "day", "place")]
    return Report(*parts, manner, rows)


def small_talk(rng):
    """Return a random small talk; its first report alone may have unknown parts."""
    manner = rng.choice(["own", "indirect"])
    rows = [small_plain(rng, manner == "indirect") for _ in range(rng.randint(1, 2))]
    if rng.random() < 0.35:
        inner = rng.choice(["own", "indirect"])
        rows.append(small_report(rng, manner == "indirect", [small_plain(rng, inner == "indirect")], inner, False))
    report = small_report(rng, False, rows, manner, True)
    return Talk(rng.sample([small_plain(rng, False), report], rng.choice([1, 2, 2])))


def small_fact(rng):
    """Return a random fact of the roots that small talks may have."""
    kind = rng.random()
    if kind < 0.4:
        marks = DAYS + [("date", 0), ("date", 3)]
        if rng.random() < 0.25:
            return ("weekday", rng.choice(DAYS), rng.randint(0, 6))
        low = rng.choice([None, rng.randint(-4, 3), 0])
        high = rng.choice([None, (low or 0) + rng.randint(0, 4), (low or 0) + rng.randint(0, 8)])
        return ("between", rng.choice(marks), rng.choice(marks), low, high)
    terms = PLACES + [("place", "rome")] if kind < 0.55 else PERSONS + [("name", "ann"), ("name", "bob")]
    return (rng.choice(["same", "same", "unlike"]), rng.choice(terms), rng.choice(terms))


def small_facts(rng, most=4):
    """Return random small facts that have a fit."""
    while True:
        facts = Facts([small_fact(rng) for _ in range(rng.randint(0, most))])
        if find_clash(facts) is None:
            return facts


def small_letter(rng, tongues=3, most=4):
    """Return a random small letter in up to so many tongues."""
    return FoundLetter(small_talk(rng), rng.sample(TONGUES, rng.randint(1, tongues)), small_facts(rng, most))


def random_changes(rng, found):
    """Return random changes, no two of which are double."""
    changes = {}
    places = list(words_of(found.talk))
    for _ in range(rng.randint(1, 5)):
        kind = rng.random()
        if kind < 0.35 and places:
            path, index, word = rng.choice(places)
            new = {"person": ("you",), "day": rng.choice([("today", 3), ("date", 2)]), "place": ("here",)}[find_kind(word)]
            changes["word", path, index] = ("word", path, index, new)
        elif kind < 0.6 and places:
            path, index, word = rng.choice(places)
            if word[0] in ("today", "that day", "date"):
                changes["add", path, index] = ("add", path, index, rng.choice([-1, 1, 7, 30]))
        elif kind < 0.75 and report_paths(found.talk):
            path = rng.choice(report_paths(found.talk))
            changes["manner", path] = ("manner", path)
        elif kind < 0.9:
            name = rng.choice(["person", "you", "today", "here"])
            changes["tongue", name] = ("tongue", name, rng.choice([True, False]))
        else:
            at = rng.randint(0, 3)
            changes["fact", at] = ("fact", ("unlike", ("T",), ("who", at)))
    return list(changes.values())


def small_letters(many, seed, tongues=3, most=4):
    """Yield random (rng, letter, all its readings)."""
    rng = random.Random(seed)
    for _ in range(many):
        found = small_letter(rng, tongues, most)
        yield rng, found, Readings(found)


class Readings:
    """All readings of a small letter; persons, days and places are free of one another.

    `told[kind]` is a list of (tongue, roots, meanings): the roots of this kind with
    what they are, and the words of this kind with what they mean.
    """

    def __init__(self, found, window=20):
        self.found = found
        self.places = {kind: [] for kind in ("person", "day", "place")}
        for path, index, word in words_of(found.talk):
            self.places[find_kind(word)].append((path, index))
        fits = {
            "person": name_fits(found.facts.rows, PERSONS, "name", NAMES),
            "place": name_fits(found.facts.rows, PLACES, "place", SPOTS),
            "day": day_fits(found.facts.rows, DAYS, window),
        }
        self.told = {kind: self.heard(kind, fits[kind]) for kind in fits}

    def heard(self, kind, fits):
        """Return what words of a kind mean in all fits of this kind, in all tongues."""
        told = []
        for tongue in self.found.tongues:
            for roots in fits:
                situation, values = situation_with(roots)
                heard = told_talk(self.found.talk, situation, tongue, values)
                told.append((tongue, roots, {place: heard_at(heard, *place) for place in self.places[kind]}))
        return told

    def meanings(self, path, index):
        """Return all that a word means in some reading."""
        place = (tuple(path), index)
        kind = [kind for kind in self.places if place in self.places[kind]][0]
        return {meanings[place] for _, _, meanings in self.told[kind]}

    def can_be(self, tongue, asked):
        """Tell whether in some reading in a tongue all these (kind, function of roots and meanings) are so."""
        return all(
            any(test(roots, meanings) for told, roots, meanings in self.told[kind] if told == tongue)
            for kind, test in asked)

    def can_all(self, asked):
        """Tell whether in some reading all these are so together; there is one test for each kind at the most."""
        return any(self.can_be(tongue, asked) for tongue in self.found.tongues)

    def can_fail(self, asked):
        """Tell whether in some reading not all these are so."""
        return any(
            not test(roots, meanings) for kind, test in asked for _, roots, meanings in self.told[kind])


def situation_with(roots):
    """Return a situation with values in which some roots are these names or days."""
    row = (roots.get(("who", 0), "xa"), roots.get(("whom", 0), "xb"), roots.get(("day", 0), 1), roots.get(("where", 0), "xc"))
    situation = Situation(
        roots.get(("T",), "xd"), roots.get(("H",), "xe"), roots.get(("D",), 2), roots.get(("Z",), "xf"))
    return situation, [row] * 12


def heard_in(talk, reading):
    """Return what is heard of a talk in a reading, worked out without levels."""
    return told_talk(talk, reading.situation, reading.tongue, reading.value_rows)


class LetterCase(FactCase):
    """A test case that can tell whether readings and cases are right."""

    def check_reading(self, found, reading):
        """Check that a reading fits a letter and has full values."""
        self.assertIsInstance(reading, Reading)
        self.assertIn(reading.tongue, found.tongues)
        self.check_fit(found.facts, (reading.situation, reading.value_rows))
        self.assertIs(reading_fits(found, reading), True)

    def check_case(self, found, case, is_so, can_yes, can_no):
        """Check Sure, Never or Both; `is_so(reading)` tells what is asked."""
        self.assertIsInstance(case, (Sure, Never, Both))
        self.assertEqual(isinstance(case, Sure), not can_no)
        self.assertEqual(isinstance(case, Never), not can_yes)
        if isinstance(case, Both):
            self.check_reading(found, case.yes)
            self.check_reading(found, case.no)
            self.assertTrue(is_so(case.yes))
            self.assertFalse(is_so(case.no))

    def meaning_in(self, found, path, index, reading):
        """Return what a word means in a reading."""
        return heard_at(heard_in(found.talk, reading), path, index)
