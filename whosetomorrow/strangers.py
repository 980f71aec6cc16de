"""Situations with values in which all persons, and all places, are unlike."""

from whosetomorrow.situations import Situation
from whosetomorrow.words import LETTERS


def fresh_names(taken, count):
    """Return so many names of three letters that are not among those taken, each another one."""
    names = []
    at = 0
    while len(names) < count:
        name = LETTERS[at // 676 % 26] + LETTERS[at // 26 % 26] + LETTERS[at % 26]
        if name not in taken:
            names.append(name)
        at = at + 1
    return names


def unlike_situation(names, places, root, day):
    """Return a situation with twelve rows of values that parts all persons and all places.

    None of them is among these names and places. The root has this day, all other roots have day 0.
    """
    persons = fresh_names(names, 26)
    spots = fresh_names(places, 13)
    days = [day if root == ("day", number) else 0 for number in range(12)]
    rows = [
        (persons[2 + number], persons[14 + number], days[number], spots[1 + number]) for number in range(12)
    ]
    situation = Situation(persons[0], persons[1], day if root == ("D",) else 0, spots[0])
    return (situation, tuple(rows))
