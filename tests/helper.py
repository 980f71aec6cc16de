"""What the tests share: a test case, sample words and talks, and hearing worked out another way."""

import itertools
import random
import unittest

from whosetomorrow.situations import Situation, Tongue, all_tongues
from whosetomorrow.talks import Plain, Report, Talk
from whosetomorrow.talkways import unknown_parts

NO_WORDS = [
    None, True, False, 0, 1.5, "", "I", "today", b"I", [], ["I"], (), ("i",), ("I", 1), ("I", None), ("II",), (1,),
    (None,), (("I",),), (["I"],), ({},), (["name"], "bob"), ({}, 1), ([], []), ("name",), ("name", ""), ("name", "abcdefghi"), ("name", "Bob"), ("name", "b0b"),
    ("name", "b b"), ("name", " bob"), ("name", "bob\n"), ("name", 3), ("name", None), ("name", b"bob"),
    ("name", "bob", "bob"), ("name", ["bob"]), ("name", ("bob",)), ["name", "bob"], {"name": "bob"}, {"I"},
    ("today",), ("today", True), ("today", False), ("today", 31), ("today", -31), ("today", "1"), ("today", 1.0),
    ("today", None), ("today", 1, 1), ("today", [1]), ["today", 1],
    ("that day",), ("that day", 31), ("that day", -31), ("that day", True), ("thatday", 1), ("that", 1),
    ("date",), ("date", True), ("date", False), ("date", "5"), ("date", 5.0), ("date", None), ("date", 5, 5),
    ("coming",), ("coming", 7), ("coming", -1), ("coming", True), ("coming", False), ("coming", "0"),
    ("last",), ("last", 7), ("last", -1), ("last", True), ("last", False),
    ("then coming", 7), ("then coming", -1), ("then coming", True), ("then coming",), ("thencoming", 3),
    ("then last", 7), ("then last", -1), ("then last", False), ("then last",),
    ("here", 0), ("there", "rome"), ("place",), ("place", ""), ("place", "abcdefghi"), ("place", "Rome"),
    ("place", "a1"), ("place", "a b"), ("place", 1), ("place", True),
    ("somebody", 0), ("one day", 1), ("someday",), ("somewhere", "rome"), ("today+1",), object(), len, range(2),
    Plain("come", ()), Situation("ann", "bob", 0, "rome"),
]

PERSON_WORDS = [("I",), ("you",), ("self",), ("told",), ("name", "a"), ("name", "abcdefgh"), ("name", "zz")]
DAY_WORDS = (
    [(head, k) for head in ("today", "that day") for k in (-30, -1, 0, 1, 7, 30)]
    + [(head, w) for head in ("coming", "last", "then coming", "then last") for w in range(7)]
    + [("date", n) for n in (0, 5, -5, 10 ** 39, -10 ** 39)]
)
PLACE_WORDS = [("here",), ("there",), ("place", "a"), ("place", "abcdefgh"), ("place", "rome")]
UNKNOWN_WORDS = [("somebody",), ("one day",), ("somewhere",)]
KNOWN_WORDS = PERSON_WORDS + DAY_WORDS + PLACE_WORDS
ALL_WORDS = KNOWN_WORDS + UNKNOWN_WORDS
NEEDY = ("self", "told", "that day", "there", "then coming", "then last")

NO_WHOLES = [None, True, False, "1", 1.0, [1], (1,), {}, object()]
NO_NAMES = [None, True, 1, "", "abcdefghi", "Ann", "a1", "a b", " a", "a\n", b"ann", ["ann"], ("ann",), object()]
TONGUES = all_tongues()
STAY = Tongue(False, False, False, False)
SHIFT = Tongue(True, True, True, True)


class Case(unittest.TestCase):
    """A test case that can tell exactly which error is raised."""

    def refused(self, expected, call, *arguments, **named):
        """Check that a call raises an error of just this class with just these attributes."""
        with self.assertRaises(type(expected)) as caught:
            result = call(*arguments, **named)
            if hasattr(result, "__next__"):
                next(result)
        self.assertIs(type(caught.exception), type(expected))
        self.assertEqual(list(vars(caught.exception).items()), list(vars(expected).items()))

    def equal_only(self, same, others):
        """Check == and != of an object with an equal one and with others."""
        one, other = same
        self.assertTrue(one == other)
        self.assertFalse(one != other)
        for thing in others + [None, True, 0, 1, "a", (), [], {}, object()]:
            self.assertFalse(one == thing)
            self.assertTrue(one != thing)
            self.assertFalse(thing == one)

    def tuples_only(self, thing):
        """Check that a result holds no list."""
        self.assertNotIsInstance(thing, list)
        if isinstance(thing, tuple):
            for entry in thing:
                self.tuples_only(entry)


def report(manner, *rows, who=("name", "cy"), whom=("name", "dot"), day=("date", 3), place=("place", "rome")):
    """Return a report whose own words may stand anywhere, if nothing else is told."""
    return Report(who, whom, day, place, manner, rows)


def come(*words):
    """Return a plain saying."""
    return Plain("come", words)


def nested(depth, manner="indirect", inmost=None):
    """Return a row of this depth."""
    row = come(("date", 1)) if inmost is None else inmost
    for _ in range(depth):
        row = report(manner, row)
    return row


def random_word(rng, kind, indirect, unknown):
    """Return a word of a kind that may stand at a level."""
    if unknown and rng.random() < 0.2:
        return {"person": ("somebody",), "day": ("one day",), "place": ("somewhere",)}[kind]
    words = {
        "person": [("I",), ("you",), ("name", rng.choice(["ann", "bob", "cy"]))],
        "day": [
            ("today", rng.randint(-30, 30)), ("coming", rng.randint(0, 6)), ("last", rng.randint(0, 6)),
            ("date", rng.randint(-40, 40)), ("today", rng.randint(-2, 2)),
        ],
        "place": [("here",), ("here",), ("place", rng.choice(["rome", "paris"]))],
    }[kind]
    if indirect:
        words = words + {
            "person": [("self",), ("told",)],
            "day": [
                ("that day", rng.randint(-30, 30)), ("then coming", rng.randint(0, 6)),
                ("then last", rng.randint(0, 6)), ("that day", rng.randint(-2, 2)),
            ],
            "place": [("there",), ("there",)],
        }[kind]
    return rng.choice(words)


def random_rows(rng, depth, indirect, left, most=3):
    """Return random rows; left is a list with the number of reports that may still be made."""
    rows = []
    for _ in range(rng.randint(1, most)):
        if depth > 0 and left[0] > 0 and rng.random() < 0.6:
            left[0] -= 1
            parts = [random_word(rng, kind, indirect, True) for kind in ("person", "person", "day", "place")]
            manner = rng.choice(["own", "indirect"])
            rows.append(Report(*parts, manner, random_rows(rng, depth - 1, manner == "indirect", left, most)))
        else:
            kinds = [rng.choice(["person", "day", "place"]) for _ in range(rng.randint(0, 4))]
            words = [random_word(rng, kind, indirect, False) for kind in kinds]
            rows.append(Plain(rng.choice(["come", "go"]), words))
    return rows


def random_talk(rng, depth=4, most=3):
    """Return a random talk of at most this depth and 12 reports."""
    return Talk(random_rows(rng, depth, False, [rng.randint(0, 12)], most))


def random_situation(rng):
    """Return a random situation; persons may be those of random talks."""
    names = ["ann", "bob", "cy", "dot", "eve"]
    return Situation(rng.choice(names), rng.choice(names), rng.randint(-50, 50), rng.choice(["rome", "paris", "oslo"]))


def random_values(rng, talk):
    """Return values for a talk; entries that are not read are other things."""
    rows = [[rng.choice([None, "No Name", 3, True, object()]) for _ in range(4)] for _ in range(talk.reports)]
    for number, index in unknown_parts(talk):
        rows[number][index] = {
            0: rng.choice(["ann", "bob", "eve"]), 1: rng.choice(["cy", "dot", "eve"]),
            2: rng.randint(-50, 50), 3: rng.choice(["rome", "oslo"]),
        }[index]
    return rows


def samples(many, seed, depth=4):
    """Yield random (talk, situation, tongue, values)."""
    rng = random.Random(seed)
    for _ in range(many):
        talk = random_talk(rng, depth)
        yield talk, random_situation(rng), rng.choice(TONGUES), random_values(rng, talk)


def walked_day(day, weekday, step):
    """Return the next day with a weekday, gone to day by day."""
    day += step
    while day % 7 != weekday:
        day += step
    return day


def told_word(world, word):
    """Return what a known word means in a world: a dict from words to what they mean there."""
    head = word[0]
    if head in ("name", "date", "place"):
        return word
    if head in ("I", "you", "self", "told"):
        return ("name", world[head])
    if head in ("here", "there"):
        return ("place", world[head])
    if head in ("today", "that day"):
        return ("date", world[head] + word[1])
    start = world["that day"] if head.startswith("then") else world["today"]
    return ("date", walked_day(start, word[1], 1 if head.endswith("coming") else -1))


def outer_world(situation):
    """Return the world of a situation."""
    return {
        "I": situation.teller, "you": situation.hearer, "today": situation.day, "here": situation.place,
    }


def inner_world(world, told, manner, tongue):
    """Return the world within a report whose own words mean this."""
    names = [told[0][1], told[1][1], told[2][1], told[3][1]]
    fresh = dict(zip(["I", "you", "today", "here"], names))
    if manner == "own":
        return fresh
    inner = dict(world)
    inner.update(zip(["self", "told", "that day", "there"], names))
    for word, shifts in [
            ("I", tongue.shifts_person), ("you", tongue.shifts_you),
            ("today", tongue.shifts_today), ("here", tongue.shifts_here)]:
        if shifts:
            inner[word] = fresh[word]
    return inner


def told_rows(rows, world, tongue, values):
    """Return what is heard of rows; values is an iterator over the rows of values."""
    heard = []
    for row in rows:
        if isinstance(row, Plain):
            heard.append(("plain", row.deed, tuple(told_word(world, word) for word in row.words)))
            continue
        given = next(values, (None,) * 4)
        heads = ("name", "name", "date", "place")
        told = tuple(
            (heads[i], given[i]) if word in UNKNOWN_WORDS else told_word(world, word)
            for i, word in enumerate(row.parts))
        inner = inner_world(world, told, row.manner, tongue)
        heard.append(("report", *told, row.manner, told_rows(row.rows, inner, tongue, values)))
    return tuple(heard)


def told_talk(talk, situation, tongue, values=()):
    """Return what is heard of a talk, worked out without levels."""
    return told_rows(talk.rows, outer_world(situation), tongue, iter(values))


def product(*rows):
    """Return all choices of one entry of each row."""
    return list(itertools.product(*rows))
