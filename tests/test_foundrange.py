"""[9.5] to [9.7]: what words of found letters can mean."""

import random
import unittest

from tests.factkit import day_fits
from tests.helper import NO_NAMES, STAY, TONGUES, come, told_talk
from tests.letterkit import (
    DAYS, NAMES, NONE, SPOTS, LetterCase, situation_with, small_facts, small_letter, small_letters,
)
from tests.talkkit import heard_at
from whosetomorrow.errors import BadNames, NoPath, NotADay, NotNamed
from whosetomorrow.facts import Facts
from whosetomorrow.found import FoundLetter, Sure, match_word
from whosetomorrow.foundrange import CanBe, days_can, is_open_word, settled_words, sure_meaning, who_can
from whosetomorrow.situations import Tongue
from whosetomorrow.talks import Talk
from whosetomorrow.talktext import read_talk
from whosetomorrow.talkways import words_of
from whosetomorrow.words import find_kind

TALK = read_talk("come I today+1 here; /somebody you someday somewhere (go self that you)")
D = ("D",)
TWELVE = ["n" + letter for letter in "abcdefghijkl"]


def letter(text, rows=(), tongues=(STAY,)):
    """Return the letter of a text."""
    return FoundLetter(read_talk(text), tongues, Facts(rows))


class WhoCanTest(LetterCase):
    def test_what_is_given_is_kept(self):
        names = ["ann"]
        self.assertIs(CanBe(names, 3).names, names)
        self.equal_only((CanBe(("ann",), True), CanBe(("ann",), True)), [
            CanBe(("bob",), True), CanBe(("ann",), False), CanBe((), True), (("ann",), True)])

    def test_named_cases(self):
        facts = [("same", ("T",), ("name", "ann")), ("unlike", ("H",), ("T",)), ("unlike", ("H",), ("name", "bob")),
                 ("unlike", ("who", 0), ("H",)), ("same", ("who", 0), ("whom", 7)), ("unlike", ("Z",), ("place", "ann"))]
        found = FoundLetter(TALK, [STAY], Facts(facts))
        self.assertEqual(who_can(found, (0,), 0, ["bob", "ann", "cy"]), CanBe(("ann",), False))
        self.assertEqual(who_can(found, [0], 0, ("bob",)), CanBe((), True))
        self.assertEqual(who_can(found, (1,), 1, ["cy", "bob", "ann", "dot"]), CanBe(("cy", "dot"), True))
        self.assertEqual(who_can(found, (1,), 0, ["cy", "bob", "ann"]), CanBe(("cy", "bob", "ann"), True))
        self.assertEqual(who_can(found, (0,), 2, ["ann", "rome"]), CanBe(("rome",), True))
        self.assertEqual(who_can(found, (1,), 3, ["ann", "rome"]), CanBe(("ann", "rome"), True))
        self.assertEqual(who_can(found, (0,), 2, []), CanBe((), True))

    def test_names_run_out_nowhere(self):
        found = letter("come I @ann")
        self.assertEqual(who_can(found, (0,), 0, TWELVE), CanBe(tuple(TWELVE), True))
        self.assertEqual(who_can(found, (0,), 1, TWELVE), CanBe((), True))
        self.assertEqual(who_can(found, (0,), 1, ["ann"]), CanBe(("ann",), False))

    def test_several_tongues(self):
        talk = "/@ann @bob =3 #rome (come I)"
        shifting = Tongue(True, False, False, False)
        facts = [("same", ("T",), ("name", "cy"))]
        found = letter(talk, facts, [STAY, shifting])
        self.assertEqual(who_can(found, (0, 0), 0, ["cy", "dot", "ann"]), CanBe(("cy", "ann"), False))
        self.assertEqual(who_can(found, (0, 0), 0, ["cy"]), CanBe(("cy",), True))
        self.assertEqual(who_can(found, (0, 0), 0, ["ann"]), CanBe(("ann",), True))
        self.assertEqual(who_can(letter(talk, facts, [shifting]), (0, 0), 0, ["cy", "ann"]), CanBe(("ann",), False))
        self.assertEqual(who_can(letter(talk, [], [STAY, shifting]), (0, 0), 0, ["ann"]), CanBe(("ann",), True))

    def test_errors_in_their_order(self):
        found = FoundLetter(TALK, [STAY], NONE)
        for path, index, wrong in [(None, 0, 0), ((), 0, 0), ((2,), 0, 0), ((0, 0), 0, 1), ((0,), 3, 1), ((True,), 0, 0)]:
            self.refused(NoPath(wrong), who_can, found, path, index, None)
        for path, index in [((0,), 1), ((1,), 2), ((1, 0), 1)]:
            self.refused(NotNamed(), who_can, found, path, index, None)
        for no in (None, "ann", {"ann"}, {"ann": 1}, 3, TWELVE + ["x"], TWELVE + [None]):
            self.refused(BadNames(0), who_can, found, (0,), 0, no)
        for no in NO_NAMES:
            self.refused(BadNames(1), who_can, found, (0,), 2, ["ann", no, None])
        self.refused(BadNames(2), who_can, found, (0,), 2, ["ann", "bob", "ann", "bob"])
        self.refused(BadNames(0), who_can, found, (0,), 2, ("Ann", "ann"))

    def test_against_all_readings(self):
        told = set()
        for rng, found, readings in small_letters(30, 141):
            for path, index, word in words_of(found.talk):
                if find_kind(word) == "day":
                    continue
                pool = NAMES if find_kind(word) == "person" else SPOTS
                names = rng.sample(pool, rng.randint(0, 3 if pool is NAMES else 2))
                can = {meaning[1] for meaning in readings.meanings(path, index)}
                case = who_can(found, path, index, names)
                self.assertEqual(case.names, tuple(name for name in names if name in can))
                self.assertIs(case.stranger, bool(can - set(names)))
                told.add((len(case.names) < len(names), case.stranger))
        self.assertEqual(len(told), 4)


class DaysCanTest(LetterCase):
    def test_the_example(self):
        found = letter("come today+1; come coming0", [("between", ("date", 0), D, 3, 6)], TONGUES)
        self.assertEqual(days_can(found, (1,), 0), ((0, 7, 7),))
        self.assertEqual(days_can(found, [0], 0), ((0, 7, 7), (4, 4, 4), (5, 5, 5), (6, 6, 6)))
        self.tuples_only(days_can(found, (0,), 0))

    def test_none_at_both_ends(self):
        every = tuple((w, None, None) for w in range(7))
        self.assertEqual(days_can(letter("come today+3"), (0,), 0), every)
        self.assertEqual(days_can(letter("come coming3"), (0,), 0), ((3, None, None),))
        self.assertEqual(days_can(letter("/@a @b someday here [come last2]"), (0,), 2), every)
        self.assertEqual(days_can(letter("/@a @b someday here [come last2]"), (0, 0), 0), ((2, None, None),))
        self.assertEqual(days_can(letter("come coming3", [("between", ("date", 10), D, 0, None)]), (0,), 0), ((3, 17, None),))
        self.assertEqual(days_can(letter("come last3", [("between", ("date", 10), D, None, 0)]), (0,), 0), ((3, None, 3),))
        self.assertEqual(days_can(letter("come =10", [("between", D, ("date", 0), 3, None)]), (0,), 0), ((3, 10, 10),))
        self.assertEqual(days_can(letter("come today-1", [("weekday", D, 0)]), (0,), 0), ((6, None, None),))

    def test_gaps(self):
        # In one tongue the date 3, in the other one today + 1: one weekday in two rows.
        text = "/@a @b =3 here (come today; come coming3)"
        shifting = Tongue(False, False, True, False)
        near = letter(text, [("between", ("date", 10), D, 0, 1)], [STAY, shifting])
        self.assertEqual(days_can(near, (0, 0), 0), ((3, 3, 10), (4, 11, 11)))
        far = letter(text, [("between", ("date", 17), D, 0, 14)], [STAY, shifting])
        self.assertEqual(days_can(far, (0, 0), 0), (
            (0, 21, 28), (1, 22, 29), (2, 23, 30), (3, 3, 3), (3, 17, 31), (4, 18, 25), (5, 19, 26), (6, 20, 27)))
        self.assertEqual(days_can(far, (0, 1), 0), ((3, 10, 10), (3, 24, 38)))
        next_day = letter("/@a @b today+1 here (come today)", [("between", ("date", 17), D, 0, 14)], [STAY, shifting])
        self.assertEqual(days_can(next_day, (0, 0), 0), (
            (0, 21, 28), (1, 22, 29), (2, 23, 30), (3, 17, 31), (4, 18, 32), (5, 19, 26), (6, 20, 27)))
        one_end = letter("/@a @b someday here (come coming3)", [
            ("between", ("date", 17), D, 0, 14), ("between", ("date", 24), ("day", 0), 0, None)], [STAY, shifting])
        self.assertEqual(days_can(one_end, (0, 0), 0), ((3, 24, None),))
        open_end = letter(text, [("between", ("date", 17), D, 0, None)], [shifting, STAY])
        self.assertEqual(days_can(open_end, (0, 1), 0), ((3, 10, 10), (3, 24, None)))
        both = letter(text, [("between", ("date", -17), D, None, 0)], [shifting, STAY])
        self.assertEqual(days_can(both, (0, 1), 0), ((3, None, -11), (3, 10, 10)))
        self.assertEqual(days_can(letter(text, [], [shifting, STAY]), (0, 1), 0), ((3, None, None),))

    def test_errors_in_their_order(self):
        found = FoundLetter(TALK, [STAY], NONE)
        for path, index, wrong in [(None, 0, 0), ((2,), 0, 0), ((0,), 3, 1), ((0,), True, 1)]:
            self.refused(NoPath(wrong), days_can, found, path, index)
            self.refused(NoPath(wrong), sure_meaning, found, path, index)
            self.refused(NoPath(wrong), is_open_word, found, path, index)
        for path, index in [((0,), 0), ((0,), 2), ((1,), 0), ((1,), 1), ((1,), 3)]:
            self.refused(NotADay(), days_can, found, path, index)

    def test_against_going_day_by_day(self):
        rng = random.Random(142)
        ends = set()
        for _ in range(40):
            found = small_letter(rng, 3, 3)
            places = [(path, index) for path, index, word in words_of(found.talk) if find_kind(word) == "day"]
            told = {place: set() for place in places}
            for roots in day_fits(found.facts.rows, DAYS, 45):
                situation, values = situation_with(roots)
                for tongue in found.tongues:
                    heard = told_talk(found.talk, situation, tongue, values)
                    for place in places:
                        told[place].add(heard_at(heard, *place)[1])
            for place in places:
                rows = days_can(found, *place)
                self.check_rows(rows)
                for date in range(-18, 19):
                    covered = any(
                        date % 7 == weekday and (first is None or first <= date) and (last is None or date <= last)
                        for weekday, first, last in rows)
                    self.assertEqual(date in told[place], covered, (place, date, rows))
                for _, first, last in rows:
                    ends |= {first is None, last is None, first == last}
        self.assertEqual(ends, {True, False})

    def check_rows(self, rows):
        """Check the order of rows, their ends and the gaps between them."""
        keys = [(w, first is not None, first or 0) for w, first, _ in rows]
        self.assertEqual(keys, sorted(keys))
        for weekday, first, last in rows:
            self.assertTrue(all(end is None or end % 7 == weekday for end in (first, last)))
            self.assertTrue(first is None or last is None or first <= last)
        for (weekday, _, last), (other, first, _) in zip(rows, rows[1:]):
            if weekday == other:
                self.assertGreater(first, last + 7)

    def test_one_row_for_a_weekday_under_one_tongue(self):
        rng = random.Random(143)
        for _ in range(120):
            found = FoundLetter(small_letter(rng).talk, [rng.choice(TONGUES)], small_facts(rng, 6))
            for path, index, word in words_of(found.talk):
                if find_kind(word) == "day":
                    weekdays = [weekday for weekday, _, _ in days_can(found, path, index)]
                    self.assertEqual(weekdays, sorted(set(weekdays)))


class SureMeaningTest(LetterCase):
    def test_named_cases(self):
        facts = [("same", ("T",), ("who", 4)), ("same", ("who", 4), ("name", "ann")), ("same", ("Z",), ("where", 0)),
                 ("between", D, ("date", 5), 2, 2)]
        found = FoundLetter(TALK, [STAY], Facts(facts))
        self.assertEqual(sure_meaning(found, (0,), 0), ("name", "ann"))
        self.assertEqual(sure_meaning(found, [0], 1), ("date", 4))
        self.assertIsNone(sure_meaning(found, (0,), 2))
        self.assertIsNone(sure_meaning(found, (1,), 0))
        self.assertEqual(list(settled_words(found)), [((0,), 0, ("name", "ann")), ((0,), 1, ("date", 4))])
        self.assertTrue(is_open_word(found, (0,), 2))
        self.assertFalse(is_open_word(found, (0,), 0))
        self.assertFalse(is_open_word(found, (0,), 1))
        self.assertTrue(is_open_word(found, (1,), 2))

    def test_unlike_meanings_in_unlike_tongues(self):
        text = "/@ann I =3 #rome (come I today here)"
        tongues = [STAY, Tongue(True, False, True, True)]
        facts = [("same", ("T",), ("name", "cy")), ("between", D, ("date", 4), 0, 0), ("same", ("Z",), ("place", "rome"))]
        found = letter(text, facts, tongues)
        self.assertIsNone(sure_meaning(found, (0, 0), 0))
        self.assertIsNone(sure_meaning(found, (0, 0), 1))
        self.assertEqual(sure_meaning(found, (0, 0), 2), ("place", "rome"))
        self.assertFalse(is_open_word(found, (0, 0), 0))
        self.assertFalse(is_open_word(found, (0, 0), 1))
        some = letter(text, [], tongues)
        for index in range(3):
            self.assertIsNone(sure_meaning(some, (0, 0), index))
            self.assertTrue(is_open_word(some, (0, 0), index))
        self.assertEqual([place[:2] for place in settled_words(some)], [((0,), 0), ((0,), 2), ((0,), 3)])

    def test_open_words_of_each_kind(self):
        found = letter("come I today here @ann; go =3 #rome", [("between", ("date", 0), D, 0, 500)])
        self.assertEqual([is_open_word(found, (0,), index) for index in range(4)], [True, False, True, False])
        self.assertEqual([is_open_word(found, (1,), index) for index in range(2)], [False, False])
        half = letter("come today", [("between", ("date", 0), D, 0, None)])
        self.assertTrue(is_open_word(half, (0,), 0))
        half = letter("come today", [("between", ("date", 0), D, None, 0)])
        self.assertTrue(is_open_word(half, (0,), 0))

    def test_against_all_readings(self):
        settled = opened = 0
        for _, found, readings in small_letters(30, 144):
            listed = list(settled_words(found))
            told = []
            for path, index, word in words_of(found.talk):
                meanings = readings.meanings(path, index)
                sure = sure_meaning(found, path, index)
                self.assertEqual(sure, list(meanings)[0] if len(meanings) == 1 else None)
                if sure is not None:
                    told.append((path, index, sure))
                    self.assertEqual(match_word(found, path, index, sure), Sure())
                settled += sure is not None
                if find_kind(word) == "day":
                    wide = any(None in row for row in days_can(found, path, index))
                else:
                    wide = any(meaning[1].startswith("s") for meaning in meanings)
                self.assertEqual(is_open_word(found, path, index), wide)
                opened += wide
            self.assertEqual(listed, told)
        self.assertTrue(min(settled, opened) > 20)

    def test_the_order_of_reading(self):
        found = letter("come @ann =1; /@a @b =2 #c [go #d; /@e @f =3 #g (come)]; come #h")
        told = [(path, index, word) for path, index, word in words_of(found.talk)]
        self.assertEqual(list(settled_words(found)), told)
        self.tuples_only(tuple(settled_words(found)))
        self.assertEqual(list(settled_words(FoundLetter(Talk([come()]), [STAY], NONE))), [])


if __name__ == "__main__":
    unittest.main()
