"""Roads of words: from report to report outward to what they look to."""

from whosetomorrow.errors import BadRoad, BadSlot, BadValues
from whosetomorrow.levels import SLOTS, outer_level, read_from, said_at, slot_of
from whosetomorrow.talkways import report_paths, row_at, unknown_parts, word_at, words_of
from whosetomorrow.words import find_kind, is_index, is_name, is_sequence, is_unknown, is_whole

SLOT_WORDS = (("I",), ("you",), ("today", 0), ("here",))


def looks_within(report, slot, tongue):
    """Tell whether a slot looks to the report within which the word stands."""
    return report.manner == "own" or slot > 3 or tongue.shifts[slot]


def road_steps(talk, path, index, tongue):
    """Return the entries (depth, word, place) of a road; a word that stands nowhere has no place."""
    word = word_at(talk, path, index)
    here = tuple(path)
    depth = len(here) - 1
    steps = [(depth, word, (here, index))]
    slot = slot_of(word)
    while slot is not None and depth > 0:
        around = here[:depth]
        report = row_at(talk, around)
        depth = depth - 1
        if looks_within(report, slot, tongue):
            word = report.parts[slot % 4]
            steps.append((depth, word, (around, slot % 4)))
        else:
            word = SLOT_WORDS[slot]
            steps.append((depth, word, None))
        slot = slot_of(word)
    return steps


def road_of(talk, path, index, tongue):
    """Return the road of the word at a word place."""
    return tuple([(depth, word) for depth, word, place in road_steps(talk, path, index, tongue)])


def is_entry(thing):
    """Tell whether a thing may be an entry of some road."""
    if not isinstance(thing, tuple) or len(thing) != 2:
        return False
    depth, word = thing
    return is_whole(depth) and depth >= 0 and find_kind(word) is not None


def continues(before, entry):
    """Tell whether an entry of a road may follow the one before it."""
    return (
        entry[0] == before[0] - 1 and slot_of(before[1]) is not None
        and find_kind(entry[1]) == find_kind(before[1])
    )


def breaks_off(entry, is_last):
    """Tell whether an entry looks to a report that the road does not have."""
    depth, word = entry
    slot = slot_of(word)
    if slot is None:
        return False
    return (is_last and depth > 0) or (depth == 0 and slot > 3)


def check_road(road):
    """Refuse what is no road."""
    if not is_sequence(road) or len(road) == 0:
        raise BadRoad(0)
    for index, entry in enumerate(road):
        if not is_entry(entry):
            raise BadRoad(index)
        if index > 0 and not continues(road[index - 1], entry):
            raise BadRoad(index)
        if breaks_off(entry, index == len(road) - 1):
            raise BadRoad(index)


def end_of_word(word):
    """Tell where a road ends that has this last word."""
    if is_unknown(word):
        return "unknown"
    slot = slot_of(word)
    return "known" if slot is None else SLOTS[slot]


def road_end(road):
    """Tell where a road ends: "known", "unknown" or the text of an outermost slot."""
    check_road(road)
    return end_of_word(road[-1][1])


def unknown_meaning(word, value):
    """Return what an unknown word means with this value."""
    kind = find_kind(word)
    if kind == "day":
        if not is_whole(value):
            raise BadValues(0)
        return ("date", value)
    if not is_name(value):
        raise BadValues(0)
    return ("name", value) if kind == "person" else ("place", value)


def read_road(road, situation, value=None):
    """Return the meaning of the first word of a road."""
    check_road(road)
    last = road[-1][1]
    if is_unknown(last):
        meaning = unknown_meaning(last, value)
    else:
        meaning = said_at(outer_level(situation), last)
    for _, word in reversed(road[:-1]):
        meaning = read_from(meaning, word)
    return meaning


def places_hanging(talk, path, index, tongue):
    """Yield the places whose road goes through the word at a word place."""
    word_at(talk, path, index)
    through = (tuple(path), index)
    for at, number, word in words_of(talk):
        steps = road_steps(talk, at, number, tongue)
        if through in [place for depth, entry, place in steps]:
            yield (at, number)


def outer_places(talk, slot, tongue):
    """Yield the places whose road ends at a slot of the outermost level."""
    if not is_index(slot, 4):
        raise BadSlot()
    for at, number, word in words_of(talk):
        steps = road_steps(talk, at, number, tongue)
        if slot_of(steps[-1][1]) == slot:
            yield (at, number)


def unknown_places(talk, number, index, tongue):
    """Yield the places whose road ends at an unknown part of the report with this number."""
    if not is_index(number, talk.reports) or not is_index(index, 4):
        raise BadSlot()
    if (number, index) not in unknown_parts(talk):
        raise BadSlot()
    end = (report_paths(talk)[number], index)
    for at, place, word in words_of(talk):
        steps = road_steps(talk, at, place, tongue)
        if steps[-1][2] == end:
            yield (at, place)
