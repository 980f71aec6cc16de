"""[3.7], [3.8]: plain forms."""

import random
import unittest

from tests.helper import (
    STAY, TONGUES, Case, come, nested, random_situation, random_talk, random_values, report, samples,
)
from tests.test_terms import NO_TERMS
from whosetomorrow.along import talk_along, talk_exchanged, values_along, values_exchanged
from whosetomorrow.errors import BadForm, BadValues
from whosetomorrow.forms import bare_form, check_form, form_of, form_value, is_settled, looks_to, terms_in
from whosetomorrow.hearing import hear_talk, settled_talk
from whosetomorrow.sevens import even_sevens, saw_sevens
from whosetomorrow.situations import Situation
from whosetomorrow.talks import Plain, Report, Talk
from whosetomorrow.talkways import check_values, unknown_parts, words_of

NOW = Situation("ann", "bob", 10, "rome")
TODAY = ("sevens", ("D",), even_sevens(0))
TALK = Talk([
    Plain("go", [("I",), ("coming", 3)]),
    Report(("you",), ("somebody",), ("today", -2), ("here",), "indirect", [
        Plain("come", [("self",), ("told",), ("that day", 1), ("there",)]),
        Report(("I",), ("name", "cy"), ("one day",), ("place", "oslo"), "own", [Plain("sing", [("I",), ("date", 4)])])])])
FORM = (
    ("plain", "go", (("T",), ("sevens", ("D",), saw_sevens(3, 0)))),
    ("report", ("H",), ("whom", 0), ("sevens", ("D",), even_sevens(-2)), ("Z",), "indirect", (
        ("plain", "come", (("H",), ("whom", 0), ("sevens", ("D",), even_sevens(-1)), ("Z",))),
        ("report", ("T",), ("name", "cy"), ("sevens", ("day", 1), even_sevens(0)), ("place", "oslo"), "own", (
            ("plain", "sing", (("T",), ("date", 4))),)))))
ROW = ("plain", "come", ())
OWN = (("T",), ("H",), TODAY, ("Z",))


def form_report(*rows, manner="own", parts=OWN):
    """Return a report of a form."""
    return ("report", *parts, manner, rows)


def deep(depth, inside=ROW):
    """Return a row of a form of this depth."""
    for _ in range(depth):
        inside = form_report(inside)
    return inside


class FormTest(Case):
    def test_by_hand(self):
        self.assertEqual(form_of(TALK, STAY), FORM)
        self.assertEqual(form_value(FORM, NOW, [(0, "dot", 0, 0), (0, 0, 99, 0)]), (
            ("plain", "go", (("name", "ann"), ("date", 17))),
            ("report", ("name", "bob"), ("name", "dot"), ("date", 8), ("place", "rome"), "indirect", (
                ("plain", "come", (("name", "bob"), ("name", "dot"), ("date", 9), ("place", "rome"))),
                ("report", ("name", "ann"), ("name", "cy"), ("date", 99), ("place", "oslo"), "own", (
                    ("plain", "sing", (("name", "ann"), ("date", 4))),))))))
        self.tuples_only(form_of(TALK, STAY))

    def test_the_value_of_a_form_is_what_is_heard_in_all_seven_rests(self):
        for talk, situation, tongue, values in samples(100, 81):
            form = form_of(talk, tongue)
            for rest in range(7):
                at = situation.moved(rest)
                told = hear_talk(talk, at, tongue, values)
                self.assertEqual(form_value(form, at, values), told)
            self.assertEqual(form_value(form, situation, check_values(talk, values)), hear_talk(
                talk, situation, tongue, values))

    def test_unknown_days_in_all_seven_rests(self):
        rng = random.Random(82)
        for talk, situation, tongue, values in samples(60, 83):
            form = form_of(talk, tongue)
            for rest in range(7):
                moved = [list(row) for row in values]
                for number, index in unknown_parts(talk):
                    if index == 2:
                        moved[number][2] += rest * rng.choice([1, -1])
                self.assertEqual(form_value(form, situation, moved), hear_talk(talk, situation, tongue, moved))

    def test_bad_values_of_the_first_such_term_as_read(self):
        self.refused(BadValues(0), form_value, FORM, NOW)
        self.refused(BadValues(0), form_value, FORM, NOW, None)
        self.refused(BadValues(1), form_value, FORM, NOW, [(0, "dot", 0, 0)])
        self.refused(BadValues(1), form_value, FORM, NOW, [(0, "dot", 0, 0), ("ann", "bob", "9", "rome")])
        late = (("plain", "go", (("who", 7), ("whom", 2))), ("plain", "go", (("who", 0),)))
        self.refused(BadValues(7), form_value, late, NOW)
        self.refused(BadValues(2), form_value, late, NOW, [("ann",) * 4] * 2 + [None] * 5 + [("ann",) * 4])
        self.assertEqual(form_value((ROW,), NOW, None), (ROW,))

    def test_bare_forms(self):
        bare = bare_form(FORM)
        self.assertEqual(bare, (
            FORM[0], FORM[1][:5] + ((FORM[1][6][0], FORM[1][6][1][:5] + (FORM[1][6][1][6],)),)))
        self.assertEqual(bare_form((ROW,)), (ROW,))
        self.assertEqual(bare_form((deep(2), ROW)), (
            ("report", *OWN, (("report", *OWN, (ROW,)),)), ROW))
        one, other = Talk([report("own", come())]), Talk([report("indirect", come())])
        self.assertNotEqual(form_of(one, STAY), form_of(other, STAY))
        self.assertEqual(bare_form(form_of(one, STAY)), bare_form(form_of(other, STAY)))


class CheckFormTest(Case):
    def refused_form(self, form, path):
        self.refused(BadForm(path), check_form, form)

    def test_forms_of_talks(self):
        self.assertEqual(check_form(FORM), 2)
        rng = random.Random(84)
        for _ in range(60):
            talk = random_talk(rng)
            self.assertEqual(check_form(form_of(talk, rng.choice(TONGUES))), talk.reports)
        self.assertEqual(check_form((ROW,) * 6), 0)
        self.assertEqual(check_form((deep(4), deep(4), deep(4))), 12)
        self.assertEqual(check_form((form_report(ROW, ("plain", "a", (("who", 11), ("where", 11)))),)), 1)

    def test_rows_of_the_form_itself(self):
        for form in (None, (), [], [ROW], (ROW,) * 7, "plain", 3, ROW[:0], {0: ROW}, object(), Talk([come()])):
            self.refused_form(form, ())

    def test_rows_that_are_no_such_tuple(self):
        for row in [
                None, 3, "plain", (), ("plain",), ("plain", "come"), ("plain", "come", (), ()), list(ROW),
                ("plane", "come", ()), (None, "come", ()), (("plain",), "come", ()), ("plain", "Come", ()),
                ("plain", None, ()), ("plain", "", ()), ("plain", "come", []), ("plain", "come", None),
                ("plain", "come", (("T",),) * 5), ("plain", "come", [("T",)]), ("plain", "come", "T"), come(),
                ("report", "come", ()), ("report", *OWN, "own"), ("report", *OWN, "own", (ROW,), 0),
                ["report", *OWN, "own", (ROW,)], ("report", *OWN, (ROW,)), ("report", *OWN, "both", (ROW,)),
                ("report", *OWN, None, (ROW,)), ("report", *OWN, ("own",), (ROW,)), ("report", OWN, "own", (ROW,)),
                ("plain", *OWN, "own", (ROW,)), report("own", come()), (0, *OWN, "own", (ROW,))]:
            self.refused_form((row,), (0,))
            self.refused_form((ROW, deep(3), row, None), (2,))
            self.refused_form((ROW, form_report(ROW, form_report(row, None)), None), (1, 1, 0))

    def test_terms_of_another_kind(self):
        for thing in NO_TERMS:
            self.refused_form((("plain", "come", (("T",), thing)),), (0,))
            for at in range(4):
                parts = OWN[:at] + (thing,) + OWN[at + 1:]
                self.refused_form((form_report(ROW, parts=parts),), (0,))
        for at in range(4):
            for term in (("name", "ann"), ("who", 0), TODAY, ("date", 3), ("place", "ann"), ("where", 0)):
                kind = {"name": 0, "who": 0, "sevens": 2, "date": 2, "place": 3, "where": 3}[term[0]]
                form = (form_report(ROW, parts=OWN[:at] + (term,) + OWN[at + 1:]),)
                if kind == max(at, 1) or (kind == 0 and at < 2):
                    self.assertEqual(check_form(form), 1)
                else:
                    self.refused_form(form, (0,))

    def test_rows_of_a_report(self):
        for rows in ((), [], [ROW], None, (ROW,) * 7, ROW[:0], 3, "rows"):
            self.refused_form((("report", *OWN, "own", rows),), (0,))
            self.refused_form((ROW, form_report(deep(1), ("report", *OWN, "indirect", rows), None)), (1, 1))

    def test_a_report_in_four_others(self):
        self.assertEqual(check_form((deep(4),)), 4)
        self.refused_form((deep(5),), (0, 0, 0, 0, 0))
        self.refused_form((ROW, deep(4, ROW), deep(3, form_report(ROW, deep(1))), None), (2, 0, 0, 0, 1))
        self.refused_form((deep(4, ("report", *OWN, "own", ())),), (0, 0, 0, 0, 0))

    def test_the_first_wrong_row_as_read(self):
        bad = ("plain", "Bad", ())
        self.refused_form((form_report(bad), bad), (0, 0))
        self.refused_form((form_report(bad, manner="x"), bad), (0,))
        self.refused_form((form_report(form_report(ROW, bad), bad), bad), (0, 0, 1))
        self.refused_form((bad, form_report(bad)), (0,))
        self.refused_form((("report", *OWN, "own", ()), bad), (0,))
        self.refused_form((bad,) * 7, ())

    def test_more_than_twelve_reports_at_last(self):
        full = (deep(4), deep(4), deep(4), deep(1))
        self.refused_form(full, ())
        self.refused_form(full + (None,), (4,))
        self.refused_form((form_report(*[deep(1)] * 6),) * 2, ())


class TermsInTest(Case):
    def test_terms_in_the_order_of_reading(self):
        self.assertEqual(list(terms_in(FORM)), [
            ((0,), 0, ("T",)), ((0,), 1, ("sevens", ("D",), saw_sevens(3, 0))),
            ((1,), 0, ("H",)), ((1,), 1, ("whom", 0)), ((1,), 2, ("sevens", ("D",), even_sevens(-2))),
            ((1,), 3, ("Z",)), ((1, 0), 0, ("H",)), ((1, 0), 1, ("whom", 0)),
            ((1, 0), 2, ("sevens", ("D",), even_sevens(-1))), ((1, 0), 3, ("Z",)), ((1, 1), 0, ("T",)),
            ((1, 1), 1, ("name", "cy")), ((1, 1), 2, ("sevens", ("day", 1), even_sevens(0))),
            ((1, 1), 3, ("place", "oslo")), ((1, 1, 0), 0, ("T",)), ((1, 1, 0), 1, ("date", 4))])
        self.assertEqual(list(terms_in((ROW,))), [])
        self.assertTrue(hasattr(terms_in(FORM), "__next__"))

    def test_places_are_those_of_the_talk(self):
        for talk, _, tongue, _ in samples(40, 85):
            told = [(path, index) for path, index, word in words_of(talk)]
            self.assertEqual([(path, index) for path, index, term in terms_in(form_of(talk, tongue))], told)

    def test_roots_in_their_order(self):
        self.assertEqual(looks_to(FORM), (("T",), ("H",), ("D",), ("Z",), ("whom", 0), ("day", 1)))
        order = [("T",), ("H",), ("D",), ("Z",)]
        terms = [("T",), ("H",), TODAY, ("Z",)]
        for i in range(12):
            order += [("who", i), ("whom", i), ("day", i), ("where", i)]
            terms += [("who", i), ("whom", i), ("sevens", ("day", i), saw_sevens(0, 3)), ("where", i)]
        backward = terms[::-1]
        rows = [("plain", "come", tuple(backward[at:at + 4])) for at in range(0, len(backward), 4)]
        form = tuple(form_report(*rows[at:at + 4]) for at in range(0, len(rows), 4))
        self.assertEqual(looks_to(form), tuple(order))
        self.assertEqual(looks_to((ROW, ROW)), ())
        self.assertEqual(looks_to((("plain", "a", (("name", "b"), ("date", 1), ("place", "c"))),)), ())

    def test_settled_forms(self):
        for talk, situation, tongue, values in samples(40, 86):
            form = form_of(talk, tongue)
            self.assertIs(is_settled(form), looks_to(form) == ())
            settled = form_of(settled_talk(talk, situation, tongue, values), tongue)
            self.assertIs(is_settled(settled), True)
            self.assertEqual(looks_to(settled), ())
        self.assertIs(is_settled((ROW,)), True)
        self.assertIs(is_settled(FORM), False)

    def test_a_part_is_looked_to_exactly_if_it_changes_the_value(self):
        for talk, situation, tongue, values in samples(60, 87):
            form = form_of(talk, tongue)
            full = [[v if f is None else f for v, f in zip(("pat", "quin", 3, "york"), row)]
                    for row in check_values(talk, values)] + [["pat", "quin", 3, "york"]] * (12 - talk.reports)
            heard = form_value(form, situation, full)
            changed = []
            parts = (situation.teller, situation.hearer, situation.day, situation.place)
            for index, head in enumerate("THDZ"):
                other = list(parts)
                other[index] = parts[2] + 7 if index == 2 else "new"
                if form_value(form, Situation(*other), full) != heard:
                    changed.append((head,))
            for number in range(12):
                for index, head in enumerate(("who", "whom", "day", "where")):
                    rows = [list(row) for row in full]
                    rows[number][index] = rows[number][index] + 7 if index == 2 else "new"
                    if form_value(form, situation, rows) != heard:
                        changed.append((head, number))
            self.assertEqual(looks_to(form), tuple(changed))


class FormsLedAlongTest(Case):
    def test_forms_of_talks_led_along_and_exchanged_are_heard_so(self):
        rng = random.Random(88)
        for _ in range(60):
            talk, situation, tongue = random_talk(rng), random_situation(rng), rng.choice(TONGUES)
            values = random_values(rng, talk)
            days = rng.choice([7, -14, 1, -3, 10 ** 20, -5])
            along = talk_along(talk, days)
            self.assertEqual(
                form_value(form_of(along, tongue), situation.moved(days), values_along(talk, values, days)),
                hear_talk(along, situation.moved(days), tongue, values_along(talk, values, days)))
            swapped = talk_exchanged(talk, "ann", "eve")
            self.assertEqual(
                form_value(form_of(swapped, tongue), situation.exchanged("ann", "eve"), values_exchanged(
                    talk, values, "ann", "eve")),
                hear_talk(swapped, situation.exchanged("ann", "eve"), tongue, values_exchanged(
                    talk, values, "ann", "eve")))
            if days % 7 == 0:
                self.assertEqual(
                    [root for root in looks_to(form_of(along, tongue))],
                    [root for root in looks_to(form_of(talk, tongue))])
        self.assertEqual(check_form(form_of(Talk([nested(4)]), STAY)), 4)


if __name__ == "__main__":
    unittest.main()
