"""What the tests of first words, origins and joined reports share: words tried in many situations."""

from tests.helper import NEEDY, TONGUES, inner_world, outer_world, random_talk, told_talk, told_word
from whosetomorrow.situations import Situation
from whosetomorrow.talkways import rows_of

MENU = {
    "person": [("I",), ("you",), ("self",), ("told",)],
    "day": (
        [(head, k) for head in ("today", "that day") for k in range(-30, 31)]
        + [(head, w) for head in ("coming", "last", "then coming", "then last") for w in range(7)]),
    "place": [("here",), ("there",)],
}


def unlike_values(rng, at):
    """Return full values in which all persons and places are unlike; any seven in a row have all weekdays of each day."""
    mark = "abcdefghijklmnopqrstuvwxyz"[at]
    return [
        ("p" + mark + letter, "q" + mark + letter, 7 * rng.randint(-50, 50) + at + number, "z" + mark + letter)
        for number, letter in enumerate("abcdefghijkl")]


def many_situations(rng, many=14):
    """Return couples (situation, values) with all persons and places unlike; any seven in a row have all weekdays."""
    found = []
    for at in range(many):
        day = at + 7 * rng.randint(-50, 50)
        mark = "abcdefghijklmnopqrstuvwxyz"[at]
        found.append((Situation("t" + mark, "h" + mark, day, "z" + mark), unlike_values(rng, at)))
    return found


def world_at(heard, path, situation, tongue, manners=None, skipped=None):
    """Return the world at a path of what is heard, with other manners of some reports, and without one of them."""
    world = outer_world(situation)
    rows = heard
    for depth, entry in enumerate(path[:-1]):
        row = rows[entry]
        here = path[:depth + 1]
        if here != skipped:
            world = inner_world(world, row[1:5], (manners or {}).get(here, row[5]), tongue)
        rows = row[6]
    return world


def heard_row(heard, path):
    """Return what is heard of the row at a path."""
    row = None
    rows = heard
    for entry in path:
        row = rows[entry]
        rows = row[6] if row[0] == "report" else ()
    return row


def heard_at(heard, path, index):
    """Return the meaning at a word place of what is heard."""
    row = heard_row(heard, path)
    return row[2][index] if row[0] == "plain" else row[1 + index]


def means(world, word):
    """Return what a word means in a world, None if it means nothing there."""
    return None if word[0] in NEEDY and not fits_world(world, word) else told_word(world, word)


def fits_world(world, word):
    """Tell whether a word that needs an indirect report has one."""
    slot = {"then coming": "that day", "then last": "that day"}.get(word[0], word[0])
    return slot in world


def words_meaning(talk, tongue, path, index, situations, manners=None, skipped=None):
    """Return the words that in all these situations mean at a changed level what stands at a word place."""
    found = None
    for situation, values in situations:
        heard = told_talk(talk, situation, tongue, values)
        meaning = heard_at(heard, path, index)
        kind = {"name": "person", "date": "day", "place": "place"}[meaning[0]]
        world = world_at(heard, path, situation, tongue, manners, skipped)
        words = [word for word in MENU[kind] + [meaning] if means(world, word) == meaning]
        found = words if found is None else [word for word in found if word in words]
    return tuple(found)


def talks_with_reports(rng, many, depth=3, most=2):
    """Yield random (talk, tongue, report path)."""
    made = 0
    while made < many:
        talk = random_talk(rng, depth, most)
        paths = [path for path, row in rows_of(talk) if row.reports]
        if paths:
            made += 1
            yield talk, rng.choice(TONGUES), rng.choice(paths)
