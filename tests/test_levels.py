"""[2.1], [2.2]: levels, slots and what words mean at a level."""

import unittest

from tests.helper import (
    ALL_WORDS, DAY_WORDS, KNOWN_WORDS, NO_WORDS, PERSON_WORDS, PLACE_WORDS, SHIFT, STAY, TONGUES, UNKNOWN_WORDS, Case,
    walked_day,
)
from whosetomorrow.errors import BadWord, MeansNothing
from whosetomorrow.levels import SLOTS, day_from, inner_level, outer_level, said_at, slot_of
from whosetomorrow.situations import Situation

OUTER = (("name", "ann"), ("name", "bob"), ("date", 10), ("place", "rome"), None, None, None, None)
OWN = (("name", "cy"), ("name", "dot"), ("date", -3), ("place", "oslo"))
FULL = OUTER[:4] + OWN
SLOT_NUMBERS = {
    "I": 0, "you": 1, "today": 2, "coming": 2, "last": 2, "here": 3, "self": 4, "told": 5, "that day": 6,
    "then coming": 6, "then last": 6, "there": 7,
}


class LevelsTest(Case):
    def test_slots(self):
        self.assertEqual(SLOTS, ("I", "you", "today", "here", "self", "told", "that day", "there"))

    def test_the_outermost_level(self):
        self.assertEqual(outer_level(Situation("ann", "bob", 10, "rome")), OUTER)
        self.assertEqual(outer_level(Situation("ann", "ann", -4, "ann")), (
            ("name", "ann"), ("name", "ann"), ("date", -4), ("place", "ann"), None, None, None, None))

    def test_within_own_words(self):
        for tongue in TONGUES:
            for level in (OUTER, FULL):
                for own in (OWN, list(OWN)):
                    self.assertEqual(inner_level(level, own, "own", tongue), OWN + (None,) * 4)

    def test_within_an_indirect_report_under_all_tongues(self):
        for tongue in TONGUES:
            for level in (OUTER, FULL):
                for own in (OWN, list(OWN)):
                    inner = inner_level(level, own, "indirect", tongue)
                    self.assertIsInstance(inner, tuple)
                    for slot in range(4):
                        self.assertEqual(inner[slot], OWN[slot] if tongue.shifts[slot] else level[slot])
                    self.assertEqual(inner[4:], OWN)
        self.assertEqual(inner_level(FULL, OWN, "indirect", SHIFT), OWN + OWN)
        self.assertEqual(inner_level(FULL, OWN, "indirect", STAY), FULL)

    def test_entries_may_be_things_of_any_kind(self):
        level = [object() for _ in range(8)]
        own = ["who", None, ("sevens",), object()]
        inner = inner_level(tuple(level), own, "indirect", TONGUES[0b0101])
        self.assertEqual(inner, (level[0], own[1], level[2], own[3], *own))
        self.assertEqual(inner_level(tuple(level), own, "own", STAY), (*own, None, None, None, None))
        own[0] = "changed"
        self.assertEqual(inner[4], "who")

    def test_the_slot_of_each_word(self):
        for word in ALL_WORDS:
            self.assertEqual(slot_of(word), SLOT_NUMBERS.get(word[0]))
        for thing in NO_WORDS:
            self.refused(BadWord(), slot_of, thing)


class DayFromTest(Case):
    def test_each_weekday_word_from_each_weekday(self):
        for start in list(range(-8, 15)) + [10 ** 39 + 2, -10 ** 39]:
            for w in range(7):
                for head in ("coming", "then coming"):
                    day = day_from(start, (head, w))
                    self.assertEqual(day, walked_day(start, w, 1))
                    self.assertIn(day - start, range(1, 8))
                for head in ("last", "then last"):
                    day = day_from(start, (head, w))
                    self.assertEqual(day, walked_day(start, w, -1))
                    self.assertIn(start - day, range(1, 8))

    def test_by_hand(self):
        # Day 0 has weekday 0; from a day with weekday 3 the coming 3 is seven days off.
        self.assertEqual(day_from(3, ("coming", 3)), 10)
        self.assertEqual(day_from(3, ("last", 3)), -4)
        self.assertEqual(day_from(3, ("coming", 4)), 4)
        self.assertEqual(day_from(3, ("coming", 2)), 9)
        self.assertEqual(day_from(-1, ("then coming", 0)), 0)
        self.assertEqual(day_from(0, ("then last", 6)), -1)

    def test_offsets_and_dates(self):
        for k in range(-30, 31):
            self.assertEqual(day_from(5, ("today", k)), 5 + k)
            self.assertEqual(day_from(-5, ("that day", k)), k - 5)
        for start in (0, 7, -10 ** 39):
            self.assertEqual(day_from(start, ("date", 17)), 17)

    def test_what_is_no_day_word(self):
        for word in NO_WORDS + PERSON_WORDS + PLACE_WORDS + UNKNOWN_WORDS:
            self.refused(BadWord(), day_from, 3, word)


class SaidAtTest(Case):
    def test_each_word_at_a_full_level(self):
        told = {
            ("I",): ("name", "ann"), ("you",): ("name", "bob"), ("self",): ("name", "cy"), ("told",): ("name", "dot"),
            ("here",): ("place", "rome"), ("there",): ("place", "oslo"),
            ("today", 1): ("date", 11), ("that day", 1): ("date", -2), ("coming", 3): ("date", 17),
            ("last", 3): ("date", 3), ("then coming", 4): ("date", 4), ("then last", 4): ("date", -10),
            ("then coming", 3): ("date", 3), ("then last", 3): ("date", -4),
        }
        for word, meaning in told.items():
            self.assertEqual(said_at(FULL, word), meaning)
        for word in KNOWN_WORDS:
            if word[0] in ("name", "date", "place"):
                self.assertEqual(said_at(FULL, word), word)
                self.assertEqual(said_at((None,) * 8, word), word)
            elif word in DAY_WORDS:
                start = 10 if word[0] in ("today", "coming", "last") else -3
                self.assertEqual(said_at(FULL, word), ("date", day_from(start, word)))

    def test_what_means_nothing(self):
        for word in UNKNOWN_WORDS:
            self.refused(MeansNothing(word), said_at, FULL, word)
        for word in KNOWN_WORDS:
            slot = slot_of(word)
            if slot is not None:
                level = FULL[:slot] + (None,) + FULL[slot + 1:]
                self.refused(MeansNothing(word), said_at, level, word)
                self.refused(MeansNothing(word), said_at, (None,) * 8, word)
            if slot is not None and slot > 3:
                self.refused(MeansNothing(word), said_at, OUTER, word)

    def test_bad_words_come_first(self):
        for thing in NO_WORDS:
            self.refused(BadWord(), said_at, FULL, thing)
            self.refused(BadWord(), said_at, (None,) * 8, thing)


if __name__ == "__main__":
    unittest.main()
