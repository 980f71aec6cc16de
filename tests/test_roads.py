"""[2.6], [2.7]: roads, where they end, and what hangs on what."""

import random
import unittest

from tests.helper import (
    ALL_WORDS, NO_WORDS, SHIFT, STAY, TONGUES, Case, come, nested, random_situation, random_word, samples,
)
from whosetomorrow.errors import BadRoad, BadSlot, BadTalk, BadValues, NoPath
from whosetomorrow.hearing import meaning_at
from whosetomorrow.roads import outer_places, places_hanging, read_road, road_end, road_of, unknown_places
from whosetomorrow.situations import Situation
from whosetomorrow.talks import Plain, Report, Talk
from whosetomorrow.talkways import check_values, report_number, row_at, rows_of, unknown_parts, with_word, words_of
from whosetomorrow.words import kind_of

NOW = Situation("ann", "bob", 10, "rome")
# Own words at depth 2, indirect reports at depths 1 and 3.
INMOST = Report(("you",), ("I",), ("coming", 2), ("here",), "indirect", [
    Plain("go", [("self",), ("I",), ("then last", 3), ("there",)]), Plain("go", [("today", 4), ("here",)])])
MIDDLE = Report(("self",), ("I",), ("that day", 2), ("there",), "own", [come(("I",), ("today", -1)), INMOST])
OUTER = Report(("you",), ("somebody",), ("today", -3), ("place", "oslo"), "indirect", [MIDDLE, come(("you",))])
TALK = Talk([come(("today", 1)), OUTER])


class RoadTest(Case):
    def test_by_hand(self):
        for path, index, tongue, road in [
                ((0,), 0, STAY, ((0, ("today", 1)),)),
                ((1,), 1, STAY, ((0, ("somebody",)),)),
                ((1,), 3, STAY, ((0, ("place", "oslo")),)),
                ((1, 0), 0, STAY, ((1, ("self",)), (0, ("you",)))),
                ((1, 0), 1, STAY, ((1, ("I",)), (0, ("I",)))),
                ((1, 0), 1, SHIFT, ((1, ("I",)), (0, ("you",)))),
                ((1, 0), 3, STAY, ((1, ("there",)), (0, ("place", "oslo")))),
                ((1, 1), 0, STAY, ((1, ("you",)), (0, ("you",)))),
                ((1, 1), 0, SHIFT, ((1, ("you",)), (0, ("somebody",)))),
                ((1, 0, 0), 0, STAY, ((2, ("I",)), (1, ("self",)), (0, ("you",)))),
                ((1, 0, 0), 1, STAY, ((2, ("today", -1)), (1, ("that day", 2)), (0, ("today", -3)))),
                ((1, 0, 1), 1, STAY, ((2, ("I",)), (1, ("self",)), (0, ("you",)))),
                ((1, 0, 1, 0), 1, STAY, ((3, ("I",)), (2, ("I",)), (1, ("self",)), (0, ("you",)))),
                ((1, 0, 1, 0), 1, SHIFT, ((3, ("I",)), (2, ("you",)), (1, ("I",)), (0, ("you",)))),
                ((1, 0, 1, 0), 0, STAY, ((3, ("self",)), (2, ("you",)), (1, ("I",)), (0, ("I",)))),
                ((1, 0, 1, 0), 2, STAY, (
                    (3, ("then last", 3)), (2, ("coming", 2)), (1, ("that day", 2)), (0, ("today", -3)))),
                ((1, 0, 1, 1), 0, STAY, (
                    (3, ("today", 4)), (2, ("today", 0)), (1, ("that day", 2)), (0, ("today", -3)))),
                ((1, 0, 1, 1), 0, SHIFT, (
                    (3, ("today", 4)), (2, ("coming", 2)), (1, ("that day", 2)), (0, ("today", -3)))),
                ((1, 0, 1, 1), 1, STAY, ((3, ("here",)), (2, ("here",)), (1, ("there",)), (0, ("place", "oslo"))))]:
            self.assertEqual(road_of(TALK, path, index, tongue), road)
            self.assertEqual(road_of(TALK, list(path), index, tongue), road)
            self.tuples_only(road_of(TALK, list(path), index, tongue))

    def test_ends_by_hand(self):
        self.assertEqual(road_end(((0, ("today", 1)),)), "today")
        self.assertEqual(road_end([(0, ("last", 1))]), "today")
        self.assertEqual(road_end(((1, ("self",)), (0, ("you",)))), "you")
        self.assertEqual(road_end(((1, ("self",)), (0, ("I",)))), "I")
        self.assertEqual(road_end(((3, ("there",)), (2, ("here",)), (1, ("there",)), (0, ("here",)))), "here")
        self.assertEqual(road_end(((4, ("date", 1)),)), "known")
        self.assertEqual(road_end(((4, ("I",)), (3, ("name", "ann")))), "known")
        self.assertEqual(road_end(((1, ("here",)), (0, ("somewhere",)))), "unknown")
        self.assertEqual(road_end(((1, ("one day",)),)), "unknown")

    def test_roads_are_read_as_meaning_at_tells(self):
        for talk, situation, tongue, values in samples(100, 41):
            checked = check_values(talk, values)
            for path, index, word in words_of(talk):
                road = road_of(talk, path, index, tongue)
                self.assertEqual(road[0], (len(path) - 1, word))
                end = road_end(road)
                value = object()
                if end == "unknown":
                    depth, last = road[-1]
                    around = path[:depth + 1]
                    kind = {"person": (0, 1), "day": (2,), "place": (3,)}[kind_of(last)]
                    part = index if around == path else self.part_of(talk, around, road, tongue)
                    self.assertIn(part, kind)
                    value = checked[report_number(talk, around)][part]
                told = meaning_at(talk, path, index, situation, tongue, values)
                self.assertEqual(read_road(road, situation, value), told)
                self.assertEqual(read_road(list(road), situation, value), told)

    def part_of(self, talk, around, road, tongue):
        """Return which own word of the report at the end of a road the last but one entry looks to."""
        head = road[-2][1][0]
        return {
            "I": 0, "self": 0, "you": 1, "told": 1, "today": 2, "coming": 2, "last": 2, "that day": 2,
            "then coming": 2, "then last": 2, "here": 3, "there": 3}[head]

    def test_no_path_as_word_at(self):
        for path, index, at in [
                ((), 0, 0), (None, 0, 0), ((2,), 0, 0), ((True,), 0, 0), ((0, 0), 0, 1), ((1, 0, 2), 0, 2),
                ((0,), 1, 1), ((0,), True, 1), ((0,), -1, 1), ((1,), 4, 1), ((1, 0, 1, 1), 2, 4), ((1, 1), None, 2)]:
            self.refused(NoPath(at), road_of, TALK, path, index, STAY)
            self.refused(NoPath(at), places_hanging, TALK, path, index, STAY)


class BadRoadTest(Case):
    def refused_road(self, road, index):
        self.refused(BadRoad(index), road_end, road)
        self.refused(BadRoad(index), read_road, road, NOW)
        self.refused(BadRoad(index), read_road, road, NOW, "ann")

    def test_no_sequence_with_an_entry(self):
        for road in ((), [], None, 3, "road", {0: (0, ("I",))}, iter([(0, ("I",))]), {(0, ("I",))}):
            self.refused_road(road, 0)

    def test_entries_that_are_none(self):
        bad = [None, 3, "ab", (), (0,), (0, ("I",), 0), [0, ("I",)], (True, ("I",)), (-1, ("I",)), ("0", ("I",)),
               (0.0, ("I",)), (None, ("I",)), (("I",), 0), {0: 1, 1: 2}]
        bad += [(0, thing) for thing in NO_WORDS]
        for entry in bad:
            self.refused_road([entry], 0)
            self.refused_road((entry, (0, ("I",))), 0)
            self.refused_road(((1, ("I",)), entry), 1)
            self.refused_road(((2, ("I",)), (1, ("self",)), entry), 2)

    def test_entries_that_do_not_continue(self):
        for first, second in [
                ((2, ("I",)), (2, ("I",))), ((3, ("I",)), (1, ("I",))), ((0, ("I",)), (1, ("I",))),
                ((1, ("name", "ann")), (0, ("I",))), ((1, ("somebody",)), (0, ("somebody",))),
                ((1, ("date", 3)), (0, ("today", 0))), ((1, ("I",)), (0, ("here",))),
                ((1, ("today", 0)), (0, ("you",))), ((1, ("there",)), (0, ("one day",))),
                ((1, ("I",)), (0, ("place", "ann"))), ((0, ("I",)), (0, ("I",)))]:
            self.refused_road((first, second), 1)
            self.refused_road([first, second, None], 1)

    def test_a_last_entry_that_looks_further(self):
        for word in ALL_WORDS:
            looks = word[0] not in ("name", "date", "place", "somebody", "one day", "somewhere")
            if looks:
                for depth in (1, 2, 3):
                    self.refused_road(((depth, word),), 0)
                    self.refused_road(((depth + 1, word), (depth, word)), 1)
            else:
                self.assertIn(road_end(((2, word),)), ("known", "unknown"))

    def test_words_that_need_a_report_at_depth_0(self):
        for word in [("self",), ("told",), ("that day", 0), ("then coming", 1), ("then last", 1), ("there",)]:
            self.refused_road(((0, word),), 0)
            self.refused_road(((1, word), (0, word)), 1)
            self.refused_road([(0, word), None], 0)

    def test_the_first_bad_entry_is_told(self):
        self.refused_road(((3, ("I",)), (2, ("you",)), (0, ("self",)), None), 2)
        self.refused_road(((0, ("I",)), None), 1)
        self.refused_road(((1, ("I",)), (0, ("self",)), (0, ("I",))), 1)

    def test_values_come_last(self):
        kinds = [("somebody",), ("one day",), ("somewhere",)]
        for word in kinds:
            road = ((1, word),)
            wrong = [None, True, "Ann", "", (), ["ann"], 1.0] + (["ann"] if word == ("one day",) else [3, 0])
            for value in wrong:
                self.refused(BadValues(0), read_road, road, NOW, value)
            self.refused(BadValues(0), read_road, road, NOW)
            self.refused(BadRoad(1), read_road, road + (None,), NOW, None)
        self.assertEqual(read_road(((0, ("somebody",)),), NOW, "eve"), ("name", "eve"))
        self.assertEqual(read_road(((1, ("coming", 3)), (0, ("one day",))), NOW, value=10), ("date", 17))
        self.assertEqual(read_road(((1, ("here",)), (0, ("somewhere",))), NOW, "oslo"), ("place", "oslo"))
        self.assertEqual(read_road([(0, ("I",))], NOW, None), ("name", "ann"))
        self.assertEqual(read_road([(0, ("here",))], NOW, object()), ("place", "rome"))
        self.assertEqual(read_road([(2, ("last", 0)), (1, ("today", 1)), (0, ("last", 3))], NOW), ("date", 0))


class HangingTest(Case):
    def test_by_hand(self):
        self.assertEqual(list(places_hanging(TALK, (0,), 0, STAY)), [((0,), 0)])
        self.assertEqual(list(places_hanging(TALK, [1], 0, STAY)), [
            ((1,), 0), ((1, 0), 0), ((1, 0, 0), 0), ((1, 0, 1), 1), ((1, 0, 1, 0), 1)])
        self.assertEqual(list(places_hanging(TALK, (1,), 1, STAY)), [((1,), 1)])
        self.assertEqual(list(places_hanging(TALK, (1,), 1, SHIFT)), [((1,), 1), ((1, 1), 0)])
        self.assertEqual(list(places_hanging(TALK, (1, 0), 2, STAY)), [
            ((1, 0), 2), ((1, 0, 0), 1), ((1, 0, 1), 2), ((1, 0, 1, 0), 2), ((1, 0, 1, 1), 0)])
        self.assertEqual(list(places_hanging(TALK, (1, 0, 1), 2, STAY)), [((1, 0, 1), 2), ((1, 0, 1, 0), 2)])
        self.assertEqual(list(places_hanging(TALK, (1, 0, 1), 2, SHIFT)), [
            ((1, 0, 1), 2), ((1, 0, 1, 0), 2), ((1, 0, 1, 1), 0)])
        self.assertEqual(list(outer_places(TALK, 0, STAY)), [((1, 0), 1), ((1, 0, 1), 0), ((1, 0, 1, 0), 0)])
        self.assertEqual(list(outer_places(TALK, 2, STAY))[:3], [((0,), 0), ((1,), 2), ((1, 0), 2)])
        self.assertEqual(list(outer_places(TALK, 3, STAY)), [])
        self.assertEqual(list(unknown_places(TALK, 0, 1, STAY)), [((1,), 1)])
        self.assertEqual(list(unknown_places(TALK, 0, 1, SHIFT)), [((1,), 1), ((1, 1), 0)])

    def test_only_what_hangs_on_a_word_changes_with_it(self):
        rng = random.Random(42)
        for talk, situation, tongue, values in samples(50, 43, 3):
            for path, index, word in words_of(talk):
                hanging = list(places_hanging(talk, path, index, tongue))
                self.assertEqual(hanging, sorted(hanging))
                self.assertIn((path, index), hanging)
                is_report = isinstance(row_at(talk, path), Report)
                if not is_report:
                    self.assertEqual(hanging, [(path, index)])
                if word[0] in ("somebody", "one day", "somewhere"):
                    continue
                new = random_word(rng, kind_of(word), len(path) > 1, False)
                try:
                    other = with_word(talk, path, index, new)
                except BadTalk:
                    continue
                for at, number, _ in words_of(talk):
                    before = meaning_at(talk, at, number, situation, tongue, values)
                    after = meaning_at(other, at, number, situation, tongue, values)
                    if before != after:
                        self.assertIn((at, number), hanging)

    def test_a_named_word_moves_all_that_hangs_on_it(self):
        for talk, situation, tongue, values in samples(50, 44, 3):
            for path, row in rows_of(talk):
                for index, head in enumerate(("name", "name", "date", "place") if isinstance(row, Report) else ()):
                    one = with_word(talk, path, index, (head, 700 if head == "date" else "one"))
                    two = with_word(talk, path, index, (head, 707 if head == "date" else "two"))
                    moved = [
                        (at, number) for at, number, _ in words_of(one)
                        if meaning_at(one, at, number, situation, tongue, values)
                        != meaning_at(two, at, number, situation, tongue, values)
                    ] if unknown_parts(one) == unknown_parts(two) == unknown_parts(talk) else None
                    if moved is not None:
                        self.assertEqual(moved, list(places_hanging(one, path, index, tongue)))

    def changed(self, talk, tongue, before, after):
        """Return the places whose meanings are unlike in two situations with values."""
        return [
            (path, index) for path, index, _ in words_of(talk)
            if meaning_at(talk, path, index, before[0], tongue, before[1])
            != meaning_at(talk, path, index, after[0], tongue, after[1])]

    def test_what_changes_with_a_part_of_the_situation(self):
        for talk, situation, tongue, values in samples(60, 45):
            for slot, other in enumerate([
                    Situation("zoe", situation.hearer, situation.day, situation.place),
                    Situation(situation.teller, "zoe", situation.day, situation.place),
                    situation.moved(-21),
                    Situation(situation.teller, situation.hearer, situation.day, "york")]):
                places = list(outer_places(talk, slot, tongue))
                self.assertEqual(self.changed(talk, tongue, (situation, values), (other, values)), places)
            for path, index in outer_places(talk, 2, tongue):
                for weeks in (1, -2, 10 ** 20):
                    moved = meaning_at(talk, path, index, situation.moved(7 * weeks), tongue, values)
                    before = meaning_at(talk, path, index, situation, tongue, values)
                    self.assertEqual(moved[1] - before[1], 7 * weeks)

    def test_what_changes_with_an_unknown_part(self):
        for talk, situation, tongue, values in samples(60, 46):
            for number, index in unknown_parts(talk):
                other = [list(row) for row in values]
                other[number][index] = values[number][index] + 14 if index == 2 else "zoe"
                places = list(unknown_places(talk, number, index, tongue))
                self.assertEqual(self.changed(talk, tongue, (situation, values), (situation, other)), places)

    def test_each_place_ends_once(self):
        for talk, _, tongue, _ in samples(40, 47):
            found = [place for slot in range(4) for place in outer_places(talk, slot, tongue)]
            for number, index in unknown_parts(talk):
                found.extend(unknown_places(talk, number, index, tongue))
            known = [
                (path, index) for path, index, _ in words_of(talk)
                if road_end(road_of(talk, path, index, tongue)) == "known"]
            self.assertEqual(sorted(found + known), [(path, index) for path, index, _ in words_of(talk)])

    def test_bad_slots(self):
        for slot in (-1, 4, True, False, None, "I", 1.0, [0]):
            self.refused(BadSlot(), outer_places, TALK, slot, STAY)
        for number, index in [
                (0, 0), (0, 2), (0, 3), (1, 1), (3, 1), (-1, 1), (0, -1), (0, 4), (False, 1), (0, True), (None, 1),
                (0, None), ("0", 1), ([0], 1), (0, [1]), (0.0, 1)]:
            self.refused(BadSlot(), unknown_places, TALK, number, index, STAY)
        self.refused(BadSlot(), unknown_places, Talk([nested(2)]), 0, 0, STAY)

    def test_they_are_generators(self):
        for found in (
                places_hanging(TALK, (1,), 0, STAY), outer_places(TALK, 0, STAY), unknown_places(TALK, 0, 1, STAY)):
            self.assertTrue(hasattr(found, "__next__"))

    def test_roads_in_situations(self):
        rng = random.Random(48)
        for tongue in TONGUES:
            for path, index, _ in words_of(TALK):
                situation = random_situation(rng)
                told = meaning_at(TALK, path, index, situation, tongue, [(0, "eve", 0, 0)])
                self.assertEqual(read_road(road_of(TALK, path, index, tongue), situation, "eve"), told)


if __name__ == "__main__":
    unittest.main()
