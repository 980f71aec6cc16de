"""[1.9]: words, talks and values led along and exchanged; what is heard of them stands in test_hearing."""

import random
import unittest

from tests.helper import ALL_WORDS, NO_NAMES, NO_WHOLES, NO_WORDS, Case, come, random_talk, random_values, report
from whosetomorrow.along import (
    talk_along, talk_exchanged, values_along, values_exchanged, word_along, word_exchanged,
)
from whosetomorrow.errors import BadSituation, BadValues, BadWord
from whosetomorrow.talks import Report, Talk
from whosetomorrow.talkways import check_values, words_of

DAYS = [0, 1, -1, 7, -7, 3, -3, 6, 10 ** 29 + 3, -10 ** 29 - 4]
BARE = Talk([come()])
UNKNOWN = Report(("somebody",), ("somebody",), ("one day",), ("somewhere",), "own", [come()])
KNOWN_DAY = Report(("somebody",), ("name", "bob"), ("today", 0), ("here",), "own", [come(), UNKNOWN])


class WordsAlongTest(Case):
    def test_each_kind_of_word(self):
        for word in ALL_WORDS:
            for days in DAYS:
                told = word
                if word[0] == "date":
                    told = ("date", word[1] + days)
                if word[0] in ("coming", "last", "then coming", "then last"):
                    told = (word[0], (word[1] + days) % 7)
                self.assertEqual(word_along(word, days), told)
                self.assertEqual(word_along(word_along(word, days), -days), word)
                self.assertEqual(word_along(word_along(word, days), 3), word_along(word, days + 3))

    def test_by_hand(self):
        self.assertEqual(word_along(("coming", 6), 1), ("coming", 0))
        self.assertEqual(word_along(("then last", 0), -1), ("then last", 6))
        self.assertEqual(word_along(("date", 5), -7), ("date", -2))
        self.assertEqual(word_along(("today", 5), 7), ("today", 5))
        self.assertEqual(word_along(("that day", 5), 1), ("that day", 5))
        self.assertEqual(word_along(("one day",), 1), ("one day",))

    def test_refusals_in_their_order(self):
        for thing in NO_WORDS:
            self.refused(BadWord(), word_along, thing, 1)
            self.refused(BadWord(), word_along, thing, None)
        for word in ALL_WORDS:
            for days in NO_WHOLES:
                self.refused(BadSituation("day"), word_along, word, days)


class WordsExchangedTest(Case):
    def test_names_of_persons_alone(self):
        for word in ALL_WORDS:
            told = ("name", "zz") if word == ("name", "a") else ("name", "a") if word == ("name", "zz") else word
            self.assertEqual(word_exchanged(word, "a", "zz"), told)
            self.assertEqual(word_exchanged(word, "zz", "a"), told)
            self.assertEqual(word_exchanged(word, "a", "a"), word)
        self.assertEqual(word_exchanged(("place", "a"), "a", "zz"), ("place", "a"))

    def test_refusals_in_their_order(self):
        for thing in NO_WORDS:
            self.refused(BadWord(), word_exchanged, thing, "a", "b")
            self.refused(BadWord(), word_exchanged, thing, None, None)
        for word in (("I",), ("name", "a"), ("date", 3), ("place", "a")):
            for name in NO_NAMES:
                self.refused(BadSituation("name"), word_exchanged, word, name, "b")
                self.refused(BadSituation("name"), word_exchanged, word, "b", name)


class TalksAlongTest(Case):
    def test_every_word_is_led_along(self):
        rng = random.Random(5)
        for _ in range(40):
            talk = random_talk(rng)
            days = rng.choice(DAYS)
            made = talk_along(talk, days)
            told = [(path, index, word_along(word, days)) for path, index, word in words_of(talk)]
            self.assertEqual(list(words_of(made)), told)
            self.assertEqual(talk_along(made, -days), talk)
            other = talk_exchanged(talk, "ann", "bob")
            told = [(path, index, word_exchanged(word, "bob", "ann")) for path, index, word in words_of(talk)]
            self.assertEqual(list(words_of(other)), told)
            self.assertEqual(talk_exchanged(other, "bob", "ann"), talk)

    def test_deeds_and_manners_stay(self):
        talk = Talk([report("indirect", come(("then coming", 6)), day=("coming", 6)), come(("date", 1))])
        self.assertEqual(talk_along(talk, 8), Talk([
            report("indirect", come(("then coming", 0)), day=("coming", 0)), come(("date", 9))]))
        self.assertEqual(talk_exchanged(talk, "cy", "ann"), Talk([
            report("indirect", come(("then coming", 6)), day=("coming", 6), who=("name", "ann")), come(("date", 1))]))

    def test_refusals_also_where_nothing_is_to_do(self):
        for talk in (BARE, Talk([come(("I",))]), Talk([UNKNOWN])):
            for days in NO_WHOLES:
                self.refused(BadSituation("day"), talk_along, talk, days)
            for name in NO_NAMES:
                self.refused(BadSituation("name"), talk_exchanged, talk, name, "b")
                self.refused(BadSituation("name"), talk_exchanged, talk, "b", name)


class ValuesAlongTest(Case):
    TALK = Talk([KNOWN_DAY, UNKNOWN])
    VALUES = [["ann", 0, 0, 0], ("bob", "ann", 3, "ann"), ["cy", "bob", -10 ** 29, "bob"]]

    def test_days_are_added_to_days_alone(self):
        self.assertEqual(values_along(self.TALK, self.VALUES, -4), (
            ("ann", None, None, None), ("bob", "ann", -1, "ann"), ("cy", "bob", -10 ** 29 - 4, "bob")))
        self.assertEqual(values_along(BARE, (), 4), ())
        self.tuples_only(values_along(self.TALK, self.VALUES, 1))
        for days in DAYS:
            moved = values_along(self.TALK, self.VALUES, days)
            self.assertEqual(values_along(self.TALK, moved, -days), check_values(self.TALK, self.VALUES))

    def test_names_are_exchanged_in_who_and_whom_alone(self):
        told = (("bob", None, None, None), ("ann", "bob", 3, "ann"), ("cy", "ann", -10 ** 29, "bob"))
        self.assertEqual(values_exchanged(self.TALK, self.VALUES, "ann", "bob"), told)
        self.assertEqual(values_exchanged(self.TALK, self.VALUES, "bob", "ann"), told)
        self.tuples_only(told)
        back = values_exchanged(self.TALK, told, "ann", "bob")
        self.assertEqual(back, check_values(self.TALK, self.VALUES))

    def test_refusals_in_their_order(self):
        for thing in NO_WHOLES:
            self.refused(BadSituation("day"), values_along, self.TALK, self.VALUES, thing)
            self.refused(BadSituation("day"), values_along, BARE, (), thing)
            self.refused(BadValues(2), values_along, self.TALK, self.VALUES[:2], thing)
            self.refused(BadValues(0), values_along, BARE, None, thing)
        for name in NO_NAMES:
            self.refused(BadSituation("name"), values_exchanged, self.TALK, self.VALUES, name, "b")
            self.refused(BadSituation("name"), values_exchanged, BARE, (), "b", name)
            self.refused(BadValues(1), values_exchanged, self.TALK, self.VALUES[:1], name, name)
            self.refused(BadValues(0), values_exchanged, BARE, None, name, "b")

    def test_random_values_there_and_back(self):
        rng = random.Random(6)
        for _ in range(40):
            talk = random_talk(rng)
            values = random_values(rng, talk)
            checked = check_values(talk, values)
            self.assertEqual(values_along(talk, values_along(talk, values, 9), -9), checked)
            once = values_exchanged(talk, values, "ann", "eve")
            self.assertEqual(values_exchanged(talk, once, "ann", "eve"), checked)


if __name__ == "__main__":
    unittest.main()
