"""[3.9], [3.10]: whether two talks say the same in all situations."""

import random
import unittest

from tests.helper import (
    SHIFT, STAY, TONGUES, Case, come, nested, random_situation, random_talk, random_values, random_word, report,
    samples,
)
from tests.test_terms import TERMS
from whosetomorrow.alike import Parted, bare_same, first_unlike, parted_fault, parting_situation, says_same
from whosetomorrow.errors import BadTalk
from whosetomorrow.forms import bare_form, form_of
from whosetomorrow.hearing import hear_talk, heard_parting
from whosetomorrow.situations import Situation, Tongue
from whosetomorrow.talks import Plain, Report, Talk
from whosetomorrow.talkways import check_values, names_in, places_in, with_row, with_word, words_of
from whosetomorrow.terms import check_term, value_of
from whosetomorrow.words import is_unknown, kind_of

NOW = Situation("ann", "bob", 10, "rome")
FULL = (("pat", "quin", 3, "york"),) * 12
UNKNOWN = Report(("somebody",), ("somebody",), ("one day",), ("somewhere",), "own", [come(("I",), ("here",))])


def turned(rows):
    """Return rows with the other manner of each report."""
    return tuple(
        row if isinstance(row, Plain)
        else Report(*row.parts, {"own": "indirect", "indirect": "own"}[row.manner], turned(row.rows)) for row in rows)


class FirstUnlikeTest(Case):
    def test_each_way_to_be_unlike_and_which_comes_first(self):
        go, a, b = Plain("go", []), come(("I",)), come(("you",))
        for one, other, told, bare in [
                ([a], [a], None, None), ([a], [a, b], ((), None), ((), None)), ([b, a], [a], ((), None), ((), None)),
                ([a], [b], ((0,), 0), ((0,), 0)), ([a, a], [a, b], ((1,), 0), ((1,), 0)),
                ([come()], [go], ((0,), None), ((0,), None)),
                ([a], [Plain("go", a.words)], ((0,), None), ((0,), None)),
                ([a], [Plain("go", b.words)], ((0,), None), ((0,), None)),
                ([a], [go], ((0,), None), ((0,), None)), ([a], [come()], ((0,), None), ((0,), None)),
                ([a], [report("own", a)], ((0,), None), ((0,), None)),
                ([come(("I",), ("you",))], [come(("I",), ("I",))], ((0,), 1), ((0,), 1)),
                ([a], [come(("here",))], ((0,), 0), ((0,), 0)),
                ([come(("today", 0))], [come(("coming", 0))], ((0,), 0), ((0,), 0)),
                ([report("own", go)], [report("indirect", go)], ((0,), None), None),
                ([report("own", go), a], [report("indirect", go), b], ((0,), None), ((1,), 0)),
                ([report("own", a)], [report("indirect", b, whom=("I",))], ((0,), None), ((0,), 1)),
                ([report("own", a)], [report("own", a, a)], ((0,), None), ((0,), None)),
                ([report("own", a)], [report("own", b)], ((0, 0), 0), ((0, 0), 0)),
                ([report("own", a, day=("today", 7))], [report("own", a, b)], ((0,), 2), ((0,), 2)),
                ([report("own", a, report("own", go, go))], [report("own", a, report("indirect", go))],
                 ((0, 1), None), ((0, 1), None)),
                ([report("own", report("own", go), go)], [report("own", report("indirect", go), a)],
                 ((0, 0), None), ((0, 1), None))]:
            one, other = form_of(Talk(one), STAY), form_of(Talk(other), STAY)
            for left, right in ((one, other), (other, one)):
                self.assertEqual(first_unlike(left, right), told)
                self.assertEqual(first_unlike(left, right, bare=False), told)
                self.assertEqual(first_unlike(left, right, bare=True), bare)

    def test_none_exactly_if_equal(self):
        rng = random.Random(91)
        for _ in range(80):
            talk, other = related(rng)
            one, two = form_of(talk, rng.choice(TONGUES)), form_of(other, rng.choice(TONGUES))
            self.assertEqual(first_unlike(one, two) is None, one == two)
            self.assertEqual(first_unlike(one, two, bare=True) is None, bare_form(one) == bare_form(two))

    def test_bare_is_passed_by_name(self):
        with self.assertRaises(TypeError):
            first_unlike((), (), True)


def related(rng):
    """Return a random talk and another one that differs from it in little or nothing."""
    talk = random_talk(rng, 3)
    other = talk
    for _ in range(rng.randint(0, 2)):
        places = [(path, index, word) for path, index, word in words_of(other) if not is_unknown(word)]
        if places:
            path, index, word = rng.choice(places)
            try:
                other = with_word(other, path, index, random_word(rng, kind_of(word), len(path) > 1, False))
            except BadTalk:
                continue
    return talk, other


class SaysSameTest(Case):
    def test_talks_that_say_the_same(self):
        stay = Talk([report("indirect", come(("I",), ("that day", 1)), who=("I",), day=("today", -1))])
        same = Talk([report("indirect", come(("self",), ("today", 0)), who=("I",), day=("today", -1))])
        for tongue in (STAY, Tongue(True, True, False, True)):
            self.assertIsNone(says_same(stay, same, tongue))
            self.assertIsNone(bare_same(stay, same, tongue))
        parted = says_same(stay, same, SHIFT)
        self.assertEqual((parted.path, parted.index), ((0, 0), 1))

    def test_manners(self):
        for talk, _, tongue, _ in samples(40, 92, 3):
            try:
                other = Talk(turned(talk.rows))
            except BadTalk:
                continue
            one, two = form_of(talk, tongue), form_of(other, tongue)
            self.assertEqual(bare_same(talk, other, tongue) is None, bare_form(one) == bare_form(two))
            self.assertEqual(says_same(talk, other, tongue) is None, one == two)
        one, other = Talk([report("own", come())]), Talk([report("indirect", come())])
        self.assertEqual(says_same(one, other, STAY).path, (0,))
        self.assertIsNone(says_same(one, other, STAY).index)
        self.assertIsNone(bare_same(one, other, STAY))

    def test_another_tongue(self):
        talk = Talk([report("indirect", come(("I",), ("you",), ("today", 0), ("here",)))])
        for one in TONGUES:
            self.assertIsNone(says_same(talk, talk, one))
            for other in TONGUES:
                unlike = [index for index in range(4) if one.shifts[index] != other.shifts[index]]
                parted = says_same(talk, talk, one, other_tongue=other)
                if unlike:
                    self.assertEqual((parted.path, parted.index), ((0, 0), unlike[0]))
                    self.assertIsNone(parted_fault(talk, talk, one, parted, other_tongue=other))
                    self.assertEqual(parted_fault(talk, talk, one, parted), "place")
                    bare = bare_same(talk, talk, one, other_tongue=other)
                    self.assertIsNone(parted_fault(talk, talk, one, bare, other_tongue=other, bare=True))
                else:
                    self.assertIsNone(parted)
                    self.assertIsNone(bare_same(talk, talk, one, other_tongue=other))

    def test_a_told_parting_is_heard(self):
        rng = random.Random(93)
        parted_often = 0
        for _ in range(150):
            talk, other = related(rng)
            tongue = rng.choice(TONGUES)
            two = rng.choice([None, None, rng.choice(TONGUES)])
            parted = says_same(talk, other, tongue, other_tongue=two)
            same = form_of(talk, tongue) == form_of(other, two or tongue)
            self.assertEqual(parted is None, same)
            if parted is None:
                continue
            parted_often += 1
            self.assertIsNone(parted_fault(talk, other, tongue, parted, other_tongue=two))
            check_values(talk, parted.value_rows)
            check_values(other, parted.value_rows)
            self.tuples_only(parted.value_rows)
            self.tuples_only(parted.path)
            self.assertIsInstance(parted.situation, Situation)
            if two is None:
                told = heard_parting(talk, other, parted.situation, tongue, parted.value_rows)
                self.assertEqual(told, (parted.path, parted.index))
            self.assertNotEqual(
                hear_talk(talk, parted.situation, tongue, parted.value_rows),
                hear_talk(other, parted.situation, two or tongue, parted.value_rows))
        self.assertGreater(parted_often, 50)

    def test_what_says_the_same_is_heard_alike_everywhere(self):
        rng = random.Random(94)
        seen = 0
        for _ in range(200):
            talk, other = related(rng)
            tongue = rng.choice(TONGUES)
            if talk != other and says_same(talk, other, tongue) is None:
                seen += 1
                for _ in range(10):
                    values = random_values(rng, talk)
                    at = random_situation(rng)
                    self.assertIsNone(heard_parting(talk, other, at, tongue, values))
        self.assertGreater(seen, 0)

    def test_every_two_unlike_terms_are_parted(self):
        terms = TERMS + [("sevens", ("D",), (7, 6, 5, 4, 3, 2, 1)), ("sevens", ("D",), (1,) * 7), ("date", 7)]
        rng = random.Random(95)
        for _ in range(3000):
            one, other = rng.sample(terms, 2)
            names = [term[1] for term in (one, other) if term[0] == "name"]
            places = [term[1] for term in (one, other) if term[0] == "place"]
            if one != other:
                situation, rows = parting_situation(one, other, names, places)
                self.assertNotEqual(value_of(one, situation, rows), value_of(other, situation, rows))
            self.assertIn(check_term(one), ("person", "day", "place"))

    def test_names_of_the_talks_do_not_get_in_the_way(self):
        names = ["aaa", "aab", "aac", "aad"]
        for name in names:
            one = Talk([come(*[("name", other) for other in names]), come(("I",))])
            other = Talk([come(*[("name", other) for other in names]), come(("name", name))])
            parted = says_same(one, other, STAY)
            self.assertIsNone(parted_fault(one, other, STAY, parted))
            self.assertNotIn(parted.situation.teller, names_in(one))
            place = Talk([come(("place", name), ("here",))])
            parted = says_same(place, Talk([come(("place", name), ("place", name))]), STAY)
            self.assertEqual(((0,), 1), (parted.path, parted.index))
            self.assertNotIn(parted.situation.place, places_in(place))


class PartedFaultTest(Case):
    ONE = Talk([come(("I",)), UNKNOWN, come(("coming", 3))])
    OTHER = Talk([come(("I",)), UNKNOWN, come(("today", 1))])

    def test_right_partings(self):
        for at in range(3, 9):
            parted = Parted((2,), 0, NOW.moved(at - 10), FULL)
            # Day 2 has weekday 2, so that the coming 3 is tomorrow only then.
            told = "same" if at % 7 == 2 else None
            self.assertEqual(parted_fault(self.ONE, self.OTHER, STAY, parted), told)
        self.assertEqual(parted_fault(self.ONE, self.OTHER, STAY, Parted((2,), 0, NOW.moved(-8), FULL)), "same")

    def test_place(self):
        for path, index in [((1,), 0), ((0,), 0), ((2,), 1), ((2,), None), ((), None), ((2, 0), 0)]:
            parted = Parted(path, index, NOW.moved(-8), ())
            self.assertEqual(parted_fault(self.ONE, self.OTHER, STAY, parted), "place")
        for parted in (Parted((2,), 0, NOW, FULL), Parted((), None, NOW, FULL)):
            self.assertEqual(parted_fault(self.ONE, self.ONE, STAY, parted), "place")

    def test_values_ahead_of_same(self):
        for rows in ((), None, (FULL[0][:3],), (("Pat", "quin", 3, "york"),), (("pat", "quin", "3", "york"),)):
            for days in (0, -8):
                parted = Parted((2,), 0, NOW.moved(days), rows)
                self.assertEqual(parted_fault(self.ONE, self.OTHER, STAY, parted), "values")
        two = with_row(self.ONE, (0,), UNKNOWN)
        for one, other in ((self.ONE, two), (two, self.ONE)):
            self.assertEqual(parted_fault(one, other, STAY, Parted((0,), None, NOW, FULL[:1])), "values")
            self.assertIsNone(parted_fault(one, other, STAY, Parted((0,), None, NOW, FULL[:2])))

    def test_same(self):
        one = Talk([come(("I",))])
        other = Talk([come(("you",))])
        self.assertIsNone(parted_fault(one, other, STAY, Parted((0,), 0, NOW, ())))
        alone = Situation("ann", "ann", 10, "rome")
        self.assertEqual(parted_fault(one, other, STAY, Parted((0,), 0, alone, ())), "same")
        who = Talk([Report(*UNKNOWN.parts, "own", [come(("I",))])])
        whom = Talk([Report(*UNKNOWN.parts, "own", [come(("you",))])])
        self.assertEqual(parted_fault(who, whom, STAY, Parted((0, 0), 0, NOW, (("pat", "pat", 3, "york"),))), "same")
        self.assertIsNone(parted_fault(who, whom, STAY, Parted((0, 0), 0, NOW, (("pat", "ann", 3, "york"),))))

    def test_bare(self):
        one = Talk([report("own", come()), come(("I",))])
        other = Talk([report("indirect", come()), come(("you",))])
        manner, word = Parted((0,), None, NOW, ()), Parted((1,), 0, NOW, ())
        self.assertIsNone(parted_fault(one, other, STAY, manner))
        self.assertIsNone(parted_fault(one, other, STAY, word, bare=True))
        self.assertEqual(parted_fault(one, other, STAY, manner, bare=True), "place")
        self.assertEqual(parted_fault(one, other, STAY, word), "place")
        self.assertIsNone(parted_fault(one, other, STAY, says_same(one, other, STAY)))
        self.assertIsNone(parted_fault(one, other, STAY, bare_same(one, other, STAY), bare=True))
        self.assertEqual(parted_fault(one, other, STAY, says_same(one, other, STAY), bare=True), "place")


class PartedTest(Case):
    def test_it_keeps_the_very_things_that_it_is_given(self):
        path, rows = [0], [object()]
        parted = Parted(path, None, "now", rows)
        self.assertIs(parted.path, path)
        self.assertIs(parted.value_rows, rows)
        self.assertEqual((parted.index, parted.situation), (None, "now"))
        named = Parted(value_rows=1, situation=2, index=3, path=4)
        self.assertEqual((named.path, named.index, named.situation, named.value_rows), (4, 3, 2, 1))

    def test_equal_by_all_four(self):
        same = (Parted((0,), 1, NOW, FULL), Parted((0,), 1, NOW.moved(0), tuple(FULL)))
        self.equal_only(same, [
            Parted((1,), 1, NOW, FULL), Parted((0,), None, NOW, FULL), Parted((0,), 1, NOW.moved(1), FULL),
            Parted((0,), 1, NOW, FULL[1:]), NOW, ((0,), 1, NOW, FULL), Talk([nested(1)])])


if __name__ == "__main__":
    unittest.main()
