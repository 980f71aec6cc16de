"""[2.3], [2.4], [2.5], and [1.9] of what is heard."""

import random
import unittest

from tests.helper import (
    SHIFT, STAY, TONGUES, Case, come, inner_world, nested, outer_world, random_situation, random_talk, random_values,
    report, samples, told_talk,
)
from whosetomorrow.along import talk_along, talk_exchanged, values_along, values_exchanged
from whosetomorrow.errors import BadValues, NoPath, NotOwn
from whosetomorrow.hearing import (
    hear_talk, heard_alike, heard_parting, level_at, meaning_at, said_alone, settled_talk, situation_within,
)
from whosetomorrow.situations import Situation, Tongue
from whosetomorrow.talks import Plain, Report, Talk
from whosetomorrow.talkways import check_values, report_paths, row_at, rows_of, unknown_parts, with_word, words_of

# Day 10 has weekday 3.
NOW = Situation("ann", "bob", 10, "rome")
TOLD = Talk([Report(("name", "cy"), ("I",), ("today", -1), ("here",), "indirect", [
    Plain("come", [("I",), ("today", 1)]), Plain("meet", [("self",), ("told",), ("then coming", 2), ("there",)]),
    Plain("sing", [("you",), ("coming", 3), ("here",), ("that day", -1)])])])
UNKNOWN = Report(("somebody",), ("somebody",), ("one day",), ("somewhere",), "own", [
    come(("I",), ("you",), ("coming", 0), ("here",))])
NO_SEQUENCES = [None, 3, "abc", {}, object()]


def name(text):
    return ("name", text)


def date(number):
    return ("date", number)


def place(text):
    return ("place", text)


class HearTest(Case):
    def test_by_hand_where_all_stay_and_where_all_shift(self):
        own = (name("cy"), name("ann"), date(9), place("rome"))
        self.assertEqual(hear_talk(TOLD, NOW, STAY), ((
            "report", *own, "indirect", (
                ("plain", "come", (name("ann"), date(11))),
                ("plain", "meet", (name("cy"), name("ann"), date(16), place("rome"))),
                ("plain", "sing", (name("bob"), date(17), place("rome"), date(8))))),))
        self.assertEqual(hear_talk(TOLD, NOW, SHIFT), ((
            "report", *own, "indirect", (
                ("plain", "come", (name("cy"), date(10))),
                ("plain", "meet", (name("cy"), name("ann"), date(16), place("rome"))),
                ("plain", "sing", (name("ann"), date(10), place("rome"), date(8))))),))

    def test_by_hand_each_shift_apart(self):
        for tongue in TONGUES:
            sing = hear_talk(TOLD, NOW, tongue)[0][6][2]
            self.assertEqual(sing[2][0], name("ann") if tongue.shifts_you else name("bob"))
            self.assertEqual(sing[2][1], date(10) if tongue.shifts_today else date(17))
            say = hear_talk(TOLD, NOW, tongue)[0][6][0]
            self.assertEqual(say[2][0], name("cy") if tongue.shifts_person else name("ann"))
            self.assertEqual(say[2][1], date(10) if tongue.shifts_today else date(11))
        there = Talk([Report(("I",), ("you",), ("today", 0), place("oslo"), "indirect", [come(("here",))])])
        for tongue in TONGUES:
            heard = hear_talk(there, NOW, tongue)[0][6][0][2]
            self.assertEqual(heard, (place("oslo") if tongue.shifts_here else place("rome"),))

    def test_by_hand_own_within_indirect_and_back(self):
        inmost = come(("I",), ("self",), ("that day", 1), ("here",))
        within = Report(("I",), ("name", "eve"), ("today", 2), ("there",), "indirect", [inmost])
        own = Report(("self",), ("told",), ("then last", 2), ("there",), "own", [
            come(("I",), ("you",), ("today", 0), ("here",)), Report(
                ("you",), ("I",), ("coming", 2), ("here",), "indirect", [inmost])])
        talk = Talk([Report(("you",), ("name", "dot"), ("date", 4), ("place", "oslo"), "indirect", [own, within])])
        heard = hear_talk(talk, NOW, STAY)
        self.assertEqual(heard, (("report", name("bob"), name("dot"), date(4), place("oslo"), "indirect", (
            ("report", name("bob"), name("dot"), date(2), place("oslo"), "own", (
                ("plain", "come", (name("bob"), name("dot"), date(2), place("oslo"))),
                ("report", name("dot"), name("bob"), date(9), place("oslo"), "indirect", (
                    ("plain", "come", (name("bob"), name("dot"), date(10), place("oslo"))),)))),
            ("report", name("ann"), name("eve"), date(12), place("oslo"), "indirect", (
                ("plain", "come", (name("ann"), name("ann"), date(13), place("rome"))),)))),))

    def test_unknown_parts_take_their_values(self):
        talk = Talk([Report(("somebody",), ("you",), ("today", 0), ("here",), "indirect", [come(("self",)), UNKNOWN])])
        values = [("eve", 3, 3, 3), ["cy", "dot", 5, "oslo"]]
        for tongue in TONGUES:
            self.assertEqual(hear_talk(talk, NOW, tongue, values), ((
                "report", name("eve"), name("bob"), date(10), place("rome"), "indirect", (
                    ("plain", "come", (name("eve"),)),
                    ("report", name("cy"), name("dot"), date(5), place("oslo"), "own", (
                        ("plain", "come", (name("cy"), name("dot"), date(7), place("oslo"))),)))),))

    def test_random_talks_against_worlds(self):
        for talk, situation, _, values in samples(120, 21):
            checked = check_values(talk, values)
            for tongue in TONGUES:
                heard = hear_talk(talk, situation, tongue, values)
                self.assertEqual(heard, told_talk(talk, situation, tongue, checked))
            self.tuples_only(heard)

    def test_values_may_be_left_out_or_hold_anything_unread(self):
        talk = Talk([nested(3), come(("I",))])
        self.assertEqual(hear_talk(talk, NOW, STAY), hear_talk(talk, NOW, STAY, [object(), "any"]))
        self.assertEqual(hear_talk(talk, NOW, STAY), hear_talk(talk, NOW, STAY, values=()))
        self.refused(BadValues(0), hear_talk, Talk([UNKNOWN]), NOW, STAY)
        self.refused(BadValues(1), hear_talk, Talk([nested(1), UNKNOWN]), NOW, STAY, [None])
        for values in NO_SEQUENCES:
            self.refused(BadValues(0), hear_talk, talk, NOW, STAY, values)


class PlacesTest(Case):
    def test_level_and_meaning_at_every_place(self):
        for talk, situation, tongue, values in samples(60, 22):
            heard = hear_talk(talk, situation, tongue, values)
            rows = dict(self.heard_rows(heard, ()))
            for path, index, word in words_of(talk):
                row = rows[path]
                told = row[2][index] if row[0] == "plain" else row[1 + index]
                self.assertEqual(meaning_at(talk, path, index, situation, tongue, values), told)
                self.assertEqual(meaning_at(talk, list(path), index, situation, tongue, values), told)
            for path, row in rows_of(talk):
                world = outer_world(situation)
                for end in range(1, len(path)):
                    around = rows[path[:end]]
                    world = inner_world(world, around[1:5], around[5], tongue)
                heads = ("name", "name", "date", "place") * 2
                slots = ("I", "you", "today", "here", "self", "told", "that day", "there")
                level = tuple(
                    (head, world[slot]) if slot in world else None for head, slot in zip(heads, slots))
                self.assertEqual(level_at(talk, path, situation, tongue, values), level)

    def heard_rows(self, rows, path):
        for at, row in enumerate(rows):
            yield path + (at,), row
            if row[0] == "report":
                yield from self.heard_rows(row[6], path + (at,))

    def test_no_path_ahead_of_bad_values(self):
        talk = Talk([come(("I",)), UNKNOWN])
        for path, at in [((), 0), (None, 0), ((2,), 0), ((True,), 0), ((0, 0), 1), ((1, 1), 1), ((1, 0, 0), 2)]:
            for values in ((), None):
                self.refused(NoPath(at), level_at, talk, path, NOW, STAY, values)
                self.refused(NoPath(at), meaning_at, talk, path, 0, NOW, STAY, values)
        for index in (-1, 1, True, None, "0"):
            self.refused(NoPath(1), meaning_at, talk, (0,), index, NOW, STAY, None)
        self.refused(NoPath(1), meaning_at, talk, (1,), 4, NOW, STAY)
        self.refused(NoPath(2), meaning_at, talk, (1, 0), 4, NOW, STAY)
        for path in ((0,), (1,), (1, 0)):
            self.refused(BadValues(0), level_at, talk, path, NOW, STAY)
            self.refused(BadValues(0), meaning_at, talk, path, 0, NOW, STAY)
            self.refused(BadValues(0), level_at, talk, path, NOW, STAY, None)
            self.refused(BadValues(0), meaning_at, talk, path, 0, NOW, STAY, None)

    def test_settled_talks_are_heard_so_everywhere(self):
        rng = random.Random(23)
        for talk, situation, tongue, values in samples(60, 24):
            settled = settled_talk(talk, situation, tongue, values)
            self.assertEqual({word[0] for _, _, word in words_of(settled)} - {"name", "date", "place"}, set())
            self.assertEqual(unknown_parts(settled), ())
            heard = hear_talk(talk, situation, tongue, values)
            for _ in range(4):
                other = rng.choice(TONGUES)
                self.assertEqual(hear_talk(settled, random_situation(rng), other, [None, 3]), heard)
            self.assertEqual(settled_talk(settled, random_situation(rng), STAY), settled)
        self.refused(BadValues(0), settled_talk, Talk([UNKNOWN]), NOW, STAY)
        self.refused(BadValues(0), settled_talk, Talk([come()]), NOW, STAY, None)

    def test_a_settled_talk_by_hand(self):
        talk = Talk([Report(("somebody",), ("you",), ("one day",), ("here",), "indirect", [
            Plain("go", [("self",), ("I",), ("then coming", 0), ("there",)])])])
        self.assertEqual(settled_talk(talk, NOW, STAY, [("eve", 0, 7, 0)]), Talk([
            Report(("name", "eve"), ("name", "bob"), ("date", 7), ("place", "rome"), "indirect", [
                Plain("go", [("name", "eve"), ("name", "ann"), ("date", 14), ("place", "rome")])])]))


class AlikeTest(Case):
    def unlike(self, one, other, place_told, tongue=STAY, values=()):
        self.assertEqual(heard_parting(one, other, NOW, tongue, values), place_told)
        self.assertEqual(heard_parting(other, one, NOW, tongue, values), place_told)
        self.assertIs(heard_alike(one, other, NOW, tongue, values), place_told is None)

    def test_each_way_to_be_unlike_and_which_comes_first(self):
        go, a, b = Plain("go", []), come(("name", "ann")), come(("name", "bob"))
        for one, other, told in [
                ([a], [a], None), ([a], [come(("I",))], None), ([a], [a, b], ((), None)), ([b, a], [a], ((), None)),
                ([a], [b], ((0,), 0)), ([a, a], [a, b], ((1,), 0)), ([a], [go], ((0,), None)),
                ([come()], [go], ((0,), None)), ([a], [Plain("go", a.words)], ((0,), None)),
                ([a], [Plain("go", b.words)], ((0,), None)), ([a], [come()], ((0,), None)), ([a, go], [a, report("own", a)], ((1,), None)),
                ([come(("I",), ("you",))], [come(("I",), ("I",))], ((0,), 1)),
                ([come(("I",), ("you",))], [come(("you",), ("I",))], ((0,), 0)),
                ([come(("I",))], [come(("here",))], ((0,), 0)),
                ([report("own", a)], [report("indirect", a)], ((0,), None)),
                ([report("own", a)], [report("indirect", b, whom=("I",))], ((0,), None)),
                ([report("own", a)], [report("own", a, a)], ((0,), None)),
                ([report("own", b, b)], [report("own", a)], ((0,), None)),
                ([report("own", a)], [report("own", b)], ((0, 0), 0)),
                ([report("own", a, whom=("I",))], [report("own", b)], ((0,), 1)),
                ([report("own", a, day=("today", -7))], [report("own", a, b)], ((0,), None)),
                ([report("own", a, place=("here",))], [report("own", a)], None),
                ([report("own", a, place=("place", "x"))], [report("own", a, b)], ((0,), 3)),
                ([report("own", a, go), a], [report("own", a, a), b], ((0, 1), None)),
                ([report("own", a, report("own", a, a))], [report("own", a, report("own", a))], ((0, 1), None)),
                ([report("own", report("own", a, b))], [report("own", report("own", a, a))], ((0, 0, 1), 0)),
                ([report("own", report("own", a), go)], [report("own", report("own", b), a)], ((0, 0, 0), 0))]:
            self.unlike(Talk(one), Talk(other), told)

    def test_what_is_alike_hangs_on_the_tongue_and_the_day(self):
        mine = Talk([report("indirect", come(("I",)))])
        yours = Talk([report("indirect", come(("self",)))])
        for tongue in TONGUES:
            self.unlike(mine, yours, None if tongue.shifts_person else ((0, 0), 0), tongue)
        monday = Talk([come(("coming", 4))])
        self.assertTrue(heard_alike(monday, Talk([come(("today", 1))]), NOW, STAY))
        self.assertFalse(heard_alike(monday, Talk([come(("today", 1))]), NOW.moved(1), STAY))

    def test_values_of_one_then_of_other(self):
        one = Talk([UNKNOWN])
        two = Talk([nested(1), UNKNOWN])
        full = [("ann", "bob", 3, "rome")] * 2
        for call in (heard_alike, heard_parting):
            self.refused(BadValues(0), call, one, two, NOW, STAY, ())
            self.refused(BadValues(1), call, two, one, NOW, STAY, [None])
            self.refused(BadValues(1), call, one, two, NOW, STAY, full[:1])
            self.refused(BadValues(0), call, two, one, NOW, STAY, [None] + full)
            self.refused(BadValues(0), call, one, one, NOW, STAY)
            self.refused(BadValues(0), call, Talk([come()]), two, NOW, STAY, None)
        self.assertEqual(heard_parting(one, two, NOW, STAY, full), ((), None))
        self.assertIs(heard_alike(one, Talk([UNKNOWN]), NOW, STAY, full), True)

    def test_alike_exactly_if_what_is_heard_is_equal(self):
        rng = random.Random(25)
        for talk, situation, tongue, values in samples(80, 26, 3):
            places = list(words_of(talk))
            other = talk
            if places:
                path, index, word = rng.choice(places)
                heads = ("name", "name", "date", "place")
                kind = heads[index] if isinstance(row_at(talk, path), Report) else "name"
                new = {"name": ("name", "ann"), "date": ("date", 3), "place": ("place", "rome")}[kind]
                other = with_word(talk, path, index, new)
            same = hear_talk(talk, situation, tongue, values) == hear_talk(other, situation, tongue, values)
            self.assertIs(heard_alike(talk, other, situation, tongue, values), same)
            self.assertEqual(heard_parting(talk, other, situation, tongue, values) is None, same)


class WithinTest(Case):
    def test_own_words_say_what_they_said_when_they_were_first_said(self):
        seen = 0
        for talk, situation, tongue, values in samples(80, 27):
            heard = dict(PlacesTest().heard_rows(hear_talk(talk, situation, tongue, values), ()))
            for path in report_paths(talk):
                inner, inner_values = situation_within(talk, list(path), situation, tongue, values)
                row = heard[path]
                self.assertEqual(inner, Situation(row[1][1], row[2][1], row[3][1], row[4][1]))
                if row[5] == "own":
                    seen += 1
                    alone = said_alone(talk, path)
                    self.assertEqual(alone, Talk(row_at(talk, path).rows))
                    self.assertEqual(hear_talk(alone, inner, tongue, inner_values), row[6])
                else:
                    self.refused(NotOwn(), said_alone, talk, path)
        self.assertGreater(seen, 40)

    def test_the_values_within(self):
        talk = Talk([UNKNOWN, Report(("I",), ("you",), ("one day",), ("here",), "own", [
            nested(1), UNKNOWN, come(), UNKNOWN]), UNKNOWN])
        values = [
            ("a", "b", 1, "c"), [0, 0, 2, 0], None, ("d", "e", 3, "f"), ["g", "h", 4, "i"], ("j", "k", 5, "l"), 7]
        told = ((None,) * 4, ("d", "e", 3, "f"), ("g", "h", 4, "i"))
        self.assertEqual(
            situation_within(talk, (1,), NOW, STAY, values), (Situation("ann", "bob", 2, "rome"), told))
        self.assertEqual(situation_within(talk, (1, 1), NOW, STAY, values), (Situation("d", "e", 3, "f"), ()))
        self.assertEqual(situation_within(talk, (0,), NOW, STAY, values), (Situation("a", "b", 1, "c"), ()))
        self.tuples_only(situation_within(talk, (1,), NOW, STAY, values))

    def test_errors_in_their_order(self):
        talk = Talk([come(("I",)), UNKNOWN, report("indirect", come(), UNKNOWN)])
        for path, at in [
                ((), 0), (None, 0), ((3,), 0), ((False,), 0), ((0,), 1), ((1, 0), 2), ((1, 1), 1), ((2, 0, 0), 2)]:
            self.refused(NoPath(at), situation_within, talk, path, NOW, STAY, None)
            self.refused(NoPath(at), said_alone, talk, path)
        self.refused(BadValues(0), situation_within, talk, (1,), NOW, STAY)
        self.refused(BadValues(2), situation_within, talk, (1,), NOW, STAY, [("a", "b", 1, "c")])
        self.refused(BadValues(0), situation_within, talk, (2,), NOW, STAY, None)
        self.refused(NotOwn(), said_alone, talk, [2])
        self.assertEqual(said_alone(talk, [2, 1]), Talk(UNKNOWN.rows))

    def test_where_all_shifts_the_words_are_one(self):
        pairs = [
            (("I",), ("self",)), (("you",), ("told",)), (("here",), ("there",)), (("today", -4), ("that day", -4)),
            (("coming", 2), ("then coming", 2)), (("last", 5), ("then last", 5))]
        for talk, situation, _, values in samples(60, 28):
            new = talk
            for path, index, word in words_of(talk):
                around = len(path) > 1 and row_at(talk, path[:-1]).manner == "indirect"
                for one, other in pairs:
                    if around and word[0] == other[0]:
                        new = with_word(new, path, index, one[:1] + word[1:])
            self.assertTrue(heard_alike(talk, new, situation, SHIFT, values))
        for one, other in pairs:
            talk = Talk([report("indirect", come(one))])
            self.assertTrue(heard_alike(talk, Talk([report("indirect", come(other))]), NOW, SHIFT))
            self.assertEqual(
                heard_alike(talk, Talk([report("indirect", come(other))]), NOW, STAY), one[0] == "here")


class LedAlongTest(Case):
    def heard_along(self, rows, days):
        """Return what is heard with each day so many days later."""
        if isinstance(rows, tuple) and rows and rows[0] == "date" and len(rows) == 2:
            return ("date", rows[1] + days)
        if isinstance(rows, tuple):
            return tuple(self.heard_along(entry, days) for entry in rows)
        return rows

    def heard_exchanged(self, rows, one, other):
        """Return what is heard with two persons exchanged."""
        if isinstance(rows, tuple) and rows and rows[0] == "name" and len(rows) == 2:
            return ("name", {one: other, other: one}.get(rows[1], rows[1]))
        if isinstance(rows, tuple):
            return tuple(self.heard_exchanged(entry, one, other) for entry in rows)
        return rows

    def test_what_is_led_along_is_heard_led_along(self):
        rng = random.Random(29)
        for talk, situation, tongue, values in samples(120, 30):
            days = rng.choice([7, -7, 70, 1, -1, 3, -5, 6, 100, 10 ** 30 + 1, -10 ** 30])
            heard = hear_talk(talk, situation, tongue, values)
            later = hear_talk(
                talk_along(talk, days), situation.moved(days), tongue, values_along(talk, values, days))
            self.assertEqual(later, self.heard_along(heard, days))

    def test_what_is_exchanged_is_heard_exchanged(self):
        rng = random.Random(31)
        for talk, situation, tongue, values in samples(120, 32):
            one, other = rng.choice(["ann", "bob", "cy"]), rng.choice(["dot", "eve", "ann", "zoe"])
            heard = hear_talk(talk, situation, tongue, values)
            exchanged = hear_talk(
                talk_exchanged(talk, one, other), situation.exchanged(one, other), tongue,
                values_exchanged(talk, values, one, other))
            self.assertEqual(exchanged, self.heard_exchanged(heard, one, other))

    def test_only_whole_weeks_leave_weekday_words_as_they_are(self):
        talk = Talk([come(("coming", 3), ("last", 0), ("today", 2), ("date", 4))])
        self.assertEqual(talk_along(talk, 14), Talk([come(("coming", 3), ("last", 0), ("today", 2), ("date", 18))]))
        self.assertEqual(talk_along(talk, -1), Talk([come(("coming", 2), ("last", 6), ("today", 2), ("date", 3))]))


class TongueUseTest(Case):
    def test_a_tongue_is_used_by_its_shifts(self):
        rng = random.Random(33)
        talk = random_talk(rng)
        values = random_values(rng, talk)
        self.assertEqual(
            hear_talk(talk, NOW, Tongue(True, False, True, False), values),
            hear_talk(talk, NOW, TONGUES[0b1010], values))


if __name__ == "__main__":
    unittest.main()
