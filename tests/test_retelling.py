"""[6.6] to [6.8]: talks retold."""

import random
import unittest

from tests.factkit import CLASH, NONE, FactCase, fitting_facts
from tests.helper import (
    NO_NAMES, NO_WORDS, SHIFT, STAY, TONGUES, UNKNOWN_WORDS, come, nested, random_situation, random_talk, random_values,
    random_word, report,
)
from tests.test_rewording import FACTS, MENU, cases, small_talk
from tests.test_sure import trials
from whosetomorrow.errors import BadManners, BadSaying, BadTalk, NoFit, NoPath, NoWord
from whosetomorrow.facts import Facts
from whosetomorrow.hearing import hear_talk, situation_within
from whosetomorrow.menus import Menu
from whosetomorrow.retelling import handed_talk, in_tongue, retold, retold_all
from whosetomorrow.rewording import choice_rows, manners_of, reworded, rewording_fault
from whosetomorrow.situations import Situation
from whosetomorrow.talks import Report, Talk
from whosetomorrow.talktext import read_talk, talk_text
from whosetomorrow.talkways import report_paths, row_at, unknown_parts, words_of
from whosetomorrow.words import find_kind, is_unknown

OTHER = {"own": "indirect", "indirect": "own"}
UNKNOWN = [UNKNOWN_WORDS[at] for at in (0, 0, 1, 2)]


def turned_at(talk, number):
    """Return the manners of a talk with one of them turned."""
    manners = list(manners_of(talk))
    manners[number] = OTHER[manners[number]]
    return manners


class ExampleTest(FactCase):
    def test_the_example(self):
        talk = read_talk("/@cy @dot today-1 here [come I today+1]")
        menu = Menu(["ann"])
        self.assertEqual(talk_text(retold(talk, (0,), STAY, NONE, menu)), "/@cy @dot today-1 here (come self today)")
        indirect = read_talk("/@cy @dot today-1 here (come I today+1)")
        self.refused(NoWord((0, 0), 0), retold, indirect, (0,), STAY, NONE, menu)
        facts = Facts([("same", ("T",), ("name", "ann"))])
        self.assertEqual(talk_text(retold(indirect, (0,), STAY, facts, menu)), "/@cy @dot today-1 here [come @ann today+2]")


class RetoldTest(FactCase):
    def test_there_and_back(self):
        told = refused = 0
        for rng, talk, tongue, facts, menu, _, _ in cases(1201, 150):
            for number, path in enumerate(report_paths(talk)):
                manners = turned_at(talk, number)
                missing = [(at, index) for at, index, choices in choice_rows(
                    talk, tongue, facts, menu, manners=manners) if not choices]
                if missing:
                    refused += 1
                    self.refused(NoWord(*missing[0]), retold, talk, path, tongue, facts, menu)
                    continue
                told += 1
                made = retold(talk, rng.choice([list, tuple])(path), tongue, facts, menu)
                self.assertEqual(made, reworded(talk, tongue, facts, menu, manners=manners))
                self.assertEqual(manners_of(made), tuple(manners))
                self.assertIsNone(rewording_fault(talk, made, tongue, facts))
                # Each word stays where it is right.
                rows = choice_rows(talk, tongue, facts, menu, manners=manners)
                old = {(at, index): word for at, index, word in words_of(talk)}
                for at, index, choices in rows:
                    if old[(at, index)] in choices:
                        self.assertIn((at, index, old[(at, index)]), list(words_of(made)))
                back = retold(made, path, tongue, facts, menu)
                self.assertIsNone(rewording_fault(talk, back, tongue, facts))
                self.assertEqual(manners_of(back), manners_of(talk))
        self.assertGreater(told, 60)
        self.assertGreater(refused, 5)

    def test_an_own_report_without_an_indirect_one_within_can_always_be_retold(self):
        rng = random.Random(1202)
        checked = 0
        for at in range(250):
            talk = random_talk(rng, 4, 2)
            facts = fitting_facts(rng, 5)
            for path in report_paths(talk):
                row = row_at(talk, path)
                inner = [row_at(talk, other).manner for other in report_paths(talk)
                         if len(other) > len(path) and other[:len(path)] == path]
                if row.manner == "own" and "indirect" not in inner:
                    checked += 1
                    made = retold(talk, path, TONGUES[at % 16], facts, Menu())
                    self.assertIsNone(rewording_fault(talk, made, TONGUES[at % 16], facts))
        self.assertGreater(checked, 60)

    def test_errors_in_their_order(self):
        talk = Talk([come(("I",)), report("indirect", come(("I",)))])
        for path, number in [(None, 0), ((), 0), ("1", 0), ((2,), 0), ((True,), 0), ((0,), 1), ((1, 0), 2), ((1, 1), 1),
                             ((0, 0), 1)]:
            self.refused(NoPath(number), retold, talk, path, STAY, NONE, MENU)
            self.refused(NoFit((0, 2)), retold, talk, path, STAY, CLASH, MENU)
        self.refused(NoWord((1, 0), 0), retold, talk, (1,), STAY, NONE, MENU)
        self.refused(NoFit((0, 2)), retold, talk, (1,), STAY, CLASH, MENU)


class RetoldAllTest(FactCase):
    def test_one_manner_for_all_reports(self):
        told = refused = 0
        for rng, talk, tongue, facts, menu, _, _ in cases(1203, 120):
            manner = rng.choice(["own", "indirect"])
            rows = choice_rows(talk, tongue, facts, menu, manners=[manner] * talk.reports)
            missing = [(path, index) for path, index, choices in rows if not choices]
            if missing:
                refused += 1
                self.refused(NoWord(*missing[0]), retold_all, talk, manner, tongue, facts, menu)
            else:
                told += 1
                made = retold_all(talk, manner, tongue, facts, menu)
                self.assertEqual(manners_of(made), (manner,) * talk.reports)
                self.assertIsNone(rewording_fault(talk, made, tongue, facts))
        self.assertGreater(told, 50)
        self.assertGreater(refused, 1)

    def test_errors_in_their_order(self):
        for talk in (Talk([come()]), Talk([report("indirect", come(("I",)))])):
            for bad in NO_NAMES + ["Own", "other", ("own",)]:
                self.refused(BadManners(0), retold_all, talk, bad, STAY, NONE, MENU)
                self.refused(NoFit((0, 2)), retold_all, talk, bad, STAY, CLASH, MENU)
        self.refused(NoWord((0, 0), 0), retold_all, talk, "own", STAY, NONE, MENU)
        self.assertEqual(retold_all(Talk([come()]), "own", STAY, NONE, MENU), Talk([come()]))


class InTongueTest(FactCase):
    def test_the_manners_stay(self):
        told = refused = 0
        for _, talk, tongue, facts, menu, into, _ in cases(1204, 200):
            other = into or SHIFT
            rows = choice_rows(talk, tongue, facts, menu, into=other)
            missing = [(path, index) for path, index, choices in rows if not choices]
            if missing:
                refused += 1
                self.refused(NoWord(*missing[0]), in_tongue, talk, tongue, other, facts, menu)
            else:
                told += 1
                made = in_tongue(talk, tongue, other, facts, menu)
                self.assertEqual(manners_of(made), manners_of(talk))
                self.assertIsNone(rewording_fault(talk, made, tongue, facts, into=other))
        self.assertGreater(told, 60)
        self.assertGreater(refused, 5)

    def test_named_edges(self):
        talk = Talk([report("indirect", come(("I",)), who=("you",))])
        self.assertEqual(row_at(in_tongue(talk, SHIFT, STAY, NONE, Menu()), (0, 0)), come(("you",)))
        self.refused(NoWord((0, 0), 0), in_tongue, talk, STAY, SHIFT, NONE, Menu())
        self.refused(NoFit((0, 2)), in_tongue, talk, STAY, SHIFT, CLASH, Menu())


class HandedTalkTest(FactCase):
    def test_what_is_handed_on_is_heard_as_the_old_talk_was(self):
        rng = random.Random(1205)
        unknown = refused = told = 0
        for at in range(250):
            talk, tongue = rng.choice([small_talk(rng), random_talk(rng, 3, 2)]), TONGUES[at % 16]
            who, day, place = [random_word(rng, kind, False, True) for kind in ("person", "day", "place")]
            facts = rng.choice(FACTS + [fitting_facts(rng, 4)])
            manner = rng.choice(["own", "indirect", None])
            try:
                if manner is None:
                    made = handed_talk(talk, who, day, place, tongue, facts, MENU)
                else:
                    made = handed_talk(talk, who, day, place, tongue, facts, MENU, manner=manner)
            except (NoWord, BadTalk):
                refused += 1
                continue
            told += 1
            row = made.rows[0]
            self.assertEqual(len(made), 1)
            self.assertEqual(row.parts, (who, ("I",), day, place))
            self.assertEqual(row.manner, manner or "indirect")
            self.assertEqual(
                [part for part in unknown_parts(made) if part[0] > 0], [(n + 1, i) for n, i in unknown_parts(talk)])
            unknown += len(unknown_parts(talk)) > 0
            for fit in trials(rng, facts if manner != "own" else NONE, 4):
                heard = hear_talk(made, fit[0], tongue, fit[1])
                inner, values = situation_within(made, (0,), fit[0], tongue, fit[1])
                self.assertEqual(heard[0][6], hear_talk(talk, inner, tongue, fit[1][1:]))
                self.assertEqual(heard[0][6], hear_talk(talk, inner, tongue, values))
                self.assertEqual(inner.hearer, fit[0].teller)
        self.assertGreater(min(unknown, told), 30)
        self.assertGreater(refused, 3)

    def test_retold_from_own_words(self):
        talk = Talk([come(("I",), ("you",), ("today", 1), ("here",))])
        self.assertEqual(
            handed_talk(talk, ("you",), ("today", -1), ("place", "oslo"), STAY, NONE, Menu()),
            Talk([Report(("you",), ("I",), ("today", -1), ("place", "oslo"), "indirect", [
                come(("you",), ("I",), ("today", 0), ("there",))])]))
        # What is right where it stands stays; in the tongue where all shift, that is every word.
        self.assertEqual(
            handed_talk(talk, ("you",), ("today", -1), ("place", "oslo"), SHIFT, NONE, Menu()).rows[0].rows, talk.rows)
        self.assertEqual(
            handed_talk(talk, ("somebody",), ("one day",), ("somewhere",), STAY, NONE, Menu()),
            Talk([Report(("somebody",), ("I",), ("one day",), ("somewhere",), "indirect", [
                come(("self",), ("I",), ("that day", 1), ("there",))])]))

    def test_facts_speak_of_the_new_situation(self):
        talk = Talk([come(("name", "ann")), Report(*UNKNOWN, "own", [come(("today", 0))])])
        facts = Facts([("same", ("T",), ("name", "ann")), ("weekday", ("day", 1), 3)])
        made = handed_talk(talk, ("name", "cy"), ("today", -1), ("here",), STAY, facts, Menu())
        self.assertEqual(made.rows[0].rows, talk.rows)
        made = handed_talk(Talk([come(("I",))]), ("name", "cy"), ("today", -1), ("here",), STAY,
                           Facts([("same", ("T",), ("name", "cy"))]), Menu())
        self.assertEqual(made.rows[0].rows, (come(("I",)),))
        # An old report's number is greater by one: the fact on report 1 is one on the old report 0.
        deep = Talk([Report(*UNKNOWN, "indirect", [come(("I",))])])
        self.refused(NoWord((0, 0, 0), 0), handed_talk, deep, ("name", "cy"), ("today", 0), ("here",), STAY,
                     Facts([("same", ("who", 0), ("name", "cy"))]), Menu())
        made = handed_talk(deep, ("name", "cy"), ("today", 0), ("here",), STAY,
                           Facts([("same", ("who", 1), ("name", "cy"))]), Menu())
        self.assertEqual(row_at(made, (0, 0, 0)), come(("self",)))

    def test_own_words_look_at_no_facts_and_no_menu(self):
        talk = Talk([come(("I",)), report("indirect", come(("self",)))])
        for facts, menu in [(CLASH, None), (None, None), (NONE, Menu())]:
            self.assertEqual(
                handed_talk(talk, ("you",), ("today", -1), ("here",), STAY, facts, menu, manner="own"),
                Talk([Report(("you",), ("I",), ("today", -1), ("here",), "own", talk.rows)]))

    def test_errors_in_their_order(self):
        talk, deep = Talk([come(("I",))]), Talk([nested(4)])
        good = (("you",), ("today", -1), ("here",))
        for manner in ("own", "indirect"):
            for thing in NO_WORDS:
                kind = find_kind(thing)
                self.assertIsNone(kind)
                self.refused(BadSaying("who"), handed_talk, deep, thing, None, None, STAY, NONE, MENU, manner=manner)
                self.refused(BadSaying("day"), handed_talk, deep, good[0], thing, None, STAY, NONE, MENU, manner=manner)
                self.refused(BadSaying("place"), handed_talk, deep, good[0], good[1], thing, STAY, NONE, MENU, manner=manner)
            self.refused(BadSaying("deep"), handed_talk, deep, *good, STAY, NONE, MENU, manner=manner)
            self.refused(BadSaying("who"), handed_talk, talk, ("here",), *good[1:], STAY, NONE, MENU, manner=manner)
            for at, word in ((0, ("self",)), (1, ("that day", 0)), (1, ("then last", 2)), (2, ("there",))):
                words = good[:at] + (word,) + good[at + 1:]
                self.refused(BadTalk((0,), "outside"), handed_talk, talk, *words, STAY, NONE, MENU, manner=manner)
            many = Talk([report("own", *[report("own", come())] * 5)] * 2)
            self.assertEqual(many.reports, 12)
            self.refused(BadTalk((), "reports"), handed_talk, many, *good, STAY, NONE, MENU, manner=manner)
        for bad in NO_NAMES + ["Own", "other"]:
            self.refused(BadSaying("manner"), handed_talk, talk, *good, STAY, NONE, MENU, manner=bad)
            self.refused(NoFit((0, 2)), handed_talk, talk, *good, STAY, CLASH, MENU, manner=bad)
        self.refused(NoFit((0, 2)), handed_talk, deep, None, None, None, STAY, CLASH, MENU)
        # Where I and you stay, nothing says within two reports who said it first.
        away = Talk([report("indirect", come(("I",)))])
        self.refused(NoWord((0, 0, 0), 0), handed_talk, away, ("name", "eve"), *good[1:], STAY, NONE, MENU)
        with self.assertRaises(TypeError):
            handed_talk(talk, *good, STAY, NONE, MENU, "own")

    def test_values_of_the_old_talk(self):
        rng = random.Random(1206)
        talk = Talk([Report(*UNKNOWN, "own", [come(("I",), ("today", 0))])])
        made = handed_talk(talk, ("somebody",), ("one day",), ("here",), STAY, NONE, Menu())
        for _ in range(20):
            values = [("pat", "quin", rng.randint(-9, 9), "york")] + list(random_values(rng, talk))
            at = random_situation(rng)
            old = Situation("pat", at.teller, values[0][2], at.place)
            self.assertEqual(hear_talk(made, at, STAY, values)[0][6], hear_talk(talk, old, STAY, values[1:]))
        self.assertFalse(is_unknown(made.rows[0].whom))


if __name__ == "__main__":
    unittest.main()
