"""[9.1] to [9.4]: found letters, readings, and what words and sayings mean in them."""

import random
import unittest

from tests.factkit import CLASH
from tests.helper import NO_WORDS, SHIFT, STAY, TONGUES, come, random_situation
from tests.letterkit import NONE, LetterCase, heard_in, small_letter, small_letters, situation_with
from tests.talkkit import heard_at, heard_row
from whosetomorrow.errors import BadMeaning, BadTongues, NoFit, NoPath
from whosetomorrow.facts import Facts, first_untrue
from whosetomorrow.found import (
    Both, FoundLetter, Never, Reading, Sure, a_reading, match_saying, match_word, reading_fits,
)
from whosetomorrow.situations import Situation, Tongue
from whosetomorrow.talks import Plain, Talk
from whosetomorrow.talktext import read_talk
from whosetomorrow.talkways import rows_of, word_at, words_of
from whosetomorrow.words import find_kind

HERE = Situation("ann", "bob", 10, "rome")
TALK = read_talk("come I today+1 here; /somebody you someday somewhere (go self that you)")
FULL = tuple([("aa", "bb", 3, "cc")] * 12)
D = ("D",)


class LetterTest(LetterCase):
    def test_attributes_and_equality(self):
        tongues = [SHIFT, STAY, SHIFT]
        facts = Facts([("same", ("T",), ("name", "ann"))])
        found = FoundLetter(TALK, tongues, facts)
        tongues.append(TONGUES[3])
        self.assertIs(found.talk, TALK)
        self.assertEqual(found.tongues, (SHIFT, STAY))
        self.assertEqual(found.facts, facts)
        self.equal_only((found, FoundLetter(Talk(TALK.rows), (SHIFT, STAY), Facts(facts.rows))), [
            FoundLetter(TALK, [STAY, SHIFT], facts), FoundLetter(TALK, [SHIFT], facts),
            FoundLetter(TALK, [SHIFT, STAY], NONE), FoundLetter(Talk([come()]), [SHIFT, STAY], facts),
            Reading(TALK, (SHIFT, STAY), facts)])

    def test_bad_tongues_ahead_of_no_fit(self):
        for tongues, index in [(None, 0), ((), 0), ([STAY] * 17, 0), (STAY, 0), ([STAY, None], 1), ([STAY, True, 3], 1)]:
            self.refused(BadTongues(index), FoundLetter, TALK, tongues, CLASH)
            self.refused(BadTongues(index), FoundLetter, TALK, tongues, NONE)
        self.refused(NoFit((0, 2)), FoundLetter, TALK, [STAY], CLASH)
        self.assertEqual(FoundLetter(TALK, TONGUES, NONE).tongues, TONGUES)

    def test_facts_may_speak_of_parts_that_are_known(self):
        facts = Facts([("same", ("who", 7), ("H",)), ("between", ("day", 11), D, 1, 1)])
        found = FoundLetter(TALK, [STAY], facts)
        self.check_reading(found, a_reading(found))


class ResultTest(LetterCase):
    def test_what_is_given_is_kept(self):
        rows = [1]
        self.assertIs(Reading(1, 2, rows).value_rows, rows)
        self.assertEqual(vars(Reading(1, 2, rows)), {"tongue": 1, "situation": 2, "value_rows": [1]})
        self.assertEqual(vars(Both(1, rows)), {"yes": 1, "no": [1]})
        self.assertEqual((vars(Sure()), vars(Never())), ({}, {}))

    def test_equality(self):
        self.equal_only((Sure(), Sure()), [Never(), Both(1, 2)])
        self.equal_only((Never(), Never()), [Sure(), Both(1, 2)])
        one = Reading(STAY, HERE, FULL)
        other = Reading(Tongue(False, False, False, False), HERE.moved(0), tuple(FULL))
        self.equal_only((one, other), [
            Reading(SHIFT, HERE, FULL), Reading(STAY, HERE.moved(1), FULL), Reading(STAY, HERE, ())])
        self.equal_only((Both(one, 1), Both(other, 1)), [Both(1, one), Both(one, 2), Both(2, 1), Sure()])


class ReadingTest(LetterCase):
    def test_each_way_not_to_fit(self):
        facts = Facts([("same", ("T",), ("name", "ann")), ("weekday", ("day", 0), 3), ("same", ("who", 5), ("who", 5))])
        found = FoundLetter(TALK, [STAY, SHIFT], facts)
        self.assertIs(reading_fits(found, Reading(STAY, HERE, FULL)), True)
        self.assertIs(reading_fits(found, Reading(SHIFT, HERE, list(FULL))), True)
        self.assertIs(reading_fits(found, Reading(TONGUES[3], HERE, FULL)), False)
        self.assertIs(reading_fits(found, Reading(STAY, Situation("bob", "bob", 10, "rome"), FULL)), False)
        self.assertIs(reading_fits(found, Reading(STAY, HERE, (("aa", "bb", 4, "cc"),) + FULL)), False)
        # Six rows reach all that is asked for, five do not reach the last fact.
        self.assertIs(reading_fits(found, Reading(STAY, HERE, FULL[:6])), True)
        self.assertIs(reading_fits(found, Reading(STAY, HERE, FULL[:5])), False)
        for rows in ((), None, (1,) * 12, (("aa", "bb", 3),) * 12, (("Aa", "bb", 3, "cc"),) * 12):
            self.assertIs(reading_fits(found, Reading(STAY, HERE, rows)), False)
        # What no word and no fact asks for may be anything.
        self.assertIs(reading_fits(found, Reading(STAY, HERE, (("aa", None, 3, "cc"),) + FULL)), True)
        self.assertIs(reading_fits(found, Reading(STAY, HERE, (("aa", None, 3, None),) + FULL)), False)

    def test_missing_rows_without_facts(self):
        found = FoundLetter(TALK, [STAY], NONE)
        self.assertIs(reading_fits(found, Reading(STAY, HERE, (("aa", 0, 3, "cc"),))), True)
        self.assertIs(reading_fits(found, Reading(STAY, HERE, ())), False)
        self.assertIs(reading_fits(FoundLetter(Talk([come()]), [STAY], NONE), Reading(STAY, HERE, ())), True)

    def test_a_reading_always_fits(self):
        rng = random.Random(131)
        for _ in range(60):
            found = small_letter(rng, 16, 6)
            self.check_reading(found, a_reading(found))

    def test_against_facts(self):
        rng = random.Random(132)
        for _ in range(150):
            found = small_letter(rng)
            situation, values = random_situation(rng), situation_with({})[1]
            fits = first_untrue(found.facts, situation, values) is None
            self.assertEqual(reading_fits(found, Reading(found.tongues[0], situation, values)), fits)
            self.assertEqual(reading_fits(found, Reading(TONGUES[0], situation, values)), fits and TONGUES[0] in found.tongues)


class WordTest(LetterCase):
    def test_named_cases(self):
        facts = Facts([("same", ("T",), ("name", "ann")), ("between", ("date", 4), D, 0, 1), ("unlike", ("H",), ("name", "cy"))])
        found = FoundLetter(TALK, [STAY], facts)
        self.assertEqual(match_word(found, (0,), 0, ("name", "ann")), Sure())
        self.assertEqual(match_word(found, [0], 0, ("name", "bob")), Never())
        self.assertIsInstance(match_word(found, (0,), 1, ("date", 5)), Both)
        self.assertEqual(match_word(found, (0,), 1, ("date", 7)), Never())
        self.assertEqual(match_word(found, (1, 0), 2, ("name", "cy")), Never())
        self.assertIsInstance(match_word(found, (1, 0), 2, ("name", "ann")), Both)
        # The unknown words themselves.
        self.assertIsInstance(match_word(found, (1,), 0, ("name", "cy")), Both)
        self.assertIsInstance(match_word(found, (1,), 2, ("date", 10 ** 30)), Both)
        self.assertIsInstance(match_word(found, (1,), 3, ("place", "cy")), Both)

    def test_meanings_of_another_kind(self):
        found = FoundLetter(TALK, [STAY], NONE)
        for index, own in enumerate([("name", "rome"), ("date", 1), ("place", "rome")]):
            for meaning in [("name", "rome"), ("date", 1), ("place", "rome")]:
                case = match_word(found, (0,), index, meaning)
                self.assertIsInstance(case, Both if meaning == own else Never)

    def test_errors_in_their_order(self):
        found = FoundLetter(TALK, [STAY], NONE)
        for path, index, wrong in [(None, 0, 0), ((), 0, 0), ((2,), 0, 0), ((0, 0), 0, 1), ((0,), 3, 1), ((1,), 4, 1),
                                   ((1,), True, 1), ((True,), 0, 0), ((1, 0), -1, 2)]:
            self.refused(NoPath(wrong), match_word, found, path, index, None)
        for no in NO_WORDS + [("I",), ("today", 1), ("here",), ("somebody",), ("one day",), ("coming", 3), ("T",)]:
            self.refused(BadMeaning(0), match_word, found, (0,), 0, no)

    def test_against_all_readings(self):
        kinds = set()
        for rng, found, readings in small_letters(22, 133):
            for path, index, word in words_of(found.talk):
                told = readings.meanings(path, index)
                near = [n for n in told if n[0] != "date" or abs(n[1]) < 6]
                asked = rng.sample(sorted(near), min(3, len(near)))
                asked += [("name", "bob"), ("place", "rome"), ("date", rng.randint(-4, 4))]
                for meaning in asked:
                    case = match_word(found, path, index, meaning)
                    self.check_case(
                        found, case, lambda reading: self.meaning_in(found, path, index, reading) == meaning,
                        meaning in told, bool(told - {meaning}))
                    kinds.add((type(case), find_kind(word)))
        self.assertEqual(len(kinds), 9)


class SayingTest(LetterCase):
    def test_words_are_asked_together(self):
        found = FoundLetter(Talk([come(("today", 0), ("today", 1))]), [STAY], NONE)
        self.assertIsInstance(match_saying(found, (0,), "come", [("date", 3), ("date", 4)]), Both)
        self.assertEqual(match_saying(found, [0], "come", (("date", 3), ("date", 5))), Never())
        found = FoundLetter(Talk([come(("I",), ("you",))]), [STAY], Facts([("same", ("T",), ("H",))]))
        self.assertEqual(match_saying(found, (0,), "come", [("name", "ann"), ("name", "bob")]), Never())
        self.assertIsInstance(match_saying(found, (0,), "come", [("name", "ann"), ("name", "ann")]), Both)
        # Each word can mean this, but in unlike tongues.
        talk = read_talk("/@ann @bob =3 #rome (come I here)")
        found = FoundLetter(talk, [Tongue(True, False, False, False), Tongue(False, False, False, True)],
                            Facts([("unlike", ("T",), ("name", "ann")), ("unlike", ("Z",), ("place", "rome"))]))
        self.assertIsInstance(match_word(found, (0, 0), 0, ("name", "ann")), Both)
        self.assertIsInstance(match_word(found, (0, 0), 1, ("place", "rome")), Both)
        self.assertEqual(match_saying(found, (0, 0), "come", [("name", "ann"), ("place", "rome")]), Never())

    def test_two_days_over_unlike_roots(self):
        talk = read_talk("/@ann @bob someday #rome (come coming3 thencoming4)")
        facts = Facts([("between", D, ("day", 0), 0, 6), ("weekday", D, 3)])
        found = FoundLetter(talk, [STAY], facts)
        for one in range(0, 30):
            for other in range(0, 30):
                told = any(
                    one == d + 7 and other == min(n for n in range(day + 1, day + 8) if n % 7 == 4)
                    for d in range(-11, 40, 7) for day in range(d, d + 7))
                case = match_saying(found, (0, 0), "come", [("date", one), ("date", other)])
                self.assertIsInstance(case, Both if told else Never)

    def test_unlike_deeds_and_numbers(self):
        found = FoundLetter(Talk([come(("name", "ann")), come()]), [STAY], NONE)
        self.assertEqual(match_saying(found, (0,), "come", [("name", "ann")]), Sure())
        self.assertEqual(match_saying(found, (0,), "go", [("name", "ann")]), Never())
        self.assertEqual(match_saying(found, (0,), None, [("name", "ann")]), Never())
        self.assertEqual(match_saying(found, (0,), "come", []), Never())
        self.assertEqual(match_saying(found, (0,), "come", [("name", "ann"), ("date", 3)]), Never())
        self.assertEqual(match_saying(found, (0,), "come", [("place", "ann")]), Never())
        self.assertEqual(match_saying(found, (1,), "come", ()), Sure())

    def test_errors_in_their_order(self):
        found = FoundLetter(TALK, [STAY], NONE)
        for path, wrong in [(None, 0), ((), 0), ((2,), 0), ((0, 0), 1), ((1,), 1), ([1], 1), ((True,), 0), ((1, 1), 1)]:
            self.refused(NoPath(wrong), match_saying, found, path, None, None)
        for no in (None, "abc", {}, ("name", "ann"), 3, {("name", "ann")}):
            self.refused(BadMeaning(0), match_saying, found, (0,), "no", no)
        for no in NO_WORDS + [("I",), ("somebody",)]:
            self.refused(BadMeaning(1), match_saying, found, (0,), "come", [("date", 1), no, None])

    def test_against_all_readings(self):
        kinds = []
        for rng, found, readings in small_letters(30, 134):
            for path, row in rows_of(found.talk):
                if not isinstance(row, Plain):
                    continue
                near = [meanings for kind in ("day",) for _, _, meanings in readings.told[kind]]
                for _ in range(3):
                    picked = {kind: rng.choice(readings.told[kind])[2] for kind in readings.told}
                    if near and rng.random() < 0.7:
                        picked["day"] = min(rng.sample(near, min(8, len(near))), key=lambda told: sum(
                            abs(meaning[1]) for meaning in told.values()))
                    meanings = [picked[find_kind(word)][path, index] for index, word in enumerate(row.words)]
                    if any(meaning[0] == "date" and abs(meaning[1]) > 8 for meaning in meanings):
                        continue
                    if rng.random() < 0.3 and meanings:
                        meanings[0] = {"name": ("name", "ann"), "date": ("date", 0), "place": ("place", "rome")}[meanings[0][0]]
                    asked = [(kind, self.asked_of(path, row, meanings, kind)) for kind in ("person", "day", "place")]
                    case = match_saying(found, path, row.deed, meanings)
                    self.check_case(
                        found, case, lambda reading: heard_row(heard_in(found.talk, reading), path)[2] == tuple(meanings),
                        readings.can_all(asked), readings.can_fail(asked))
                    kinds.append(type(case))
        self.assertTrue(min(kinds.count(kind) for kind in (Sure, Never, Both)) > 2, kinds)

    def asked_of(self, path, row, meanings, kind):
        """Return the test that the words of a kind of a row have these meanings."""
        asked = [(index, meaning) for index, meaning in enumerate(meanings) if find_kind(row.words[index]) == kind]
        return lambda roots, told: all(told[path, index] == meaning for index, meaning in asked)

    def test_sixteen_tongues(self):
        talk = read_talk("/@ann @bob =3 #rome (come I you today here)")
        found = FoundLetter(talk, TONGUES, NONE)
        meanings = [("name", "ann"), ("name", "bob"), ("date", 3), ("place", "rome")]
        case = match_saying(found, (0, 0), "come", meanings)
        self.assertIsInstance(case, Both)
        self.assertEqual(match_saying(FoundLetter(talk, [SHIFT], NONE), (0, 0), "come", meanings), Sure())
        self.assertEqual(heard_at(heard_in(talk, case.yes), (0, 0), 0), word_at(talk, (0,), 0))


if __name__ == "__main__":
    unittest.main()
