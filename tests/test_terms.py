"""[3.1], [3.4]: terms."""

import random
import unittest

from tests.helper import NO_WHOLES, Case, product, walked_day
from whosetomorrow.errors import BadTerm, BadValues
from whosetomorrow.sevens import even_sevens, lead_sevens, saw_sevens
from whosetomorrow.situations import Situation
from whosetomorrow.terms import (
    check_term, day_coming, day_last, day_plus, root_of_term, value_of, weekday_of_term,
)

ROOTS = [("D",)] + [("day", i) for i in range(12)]
PERSON_TERMS = [("T",), ("H",), ("name", "ann"), ("name", "abcdefgh")] + [
    (head, i) for head in ("who", "whom") for i in range(12)]
PLACE_TERMS = [("Z",), ("place", "rome")] + [("where", i) for i in range(12)]
DAY_TERMS = [("date", n) for n in (0, 5, -5, 10 ** 39)] + [("sevens", root, sevens) for root in ROOTS for sevens in (
    even_sevens(0), even_sevens(-40), saw_sevens(3, -2), saw_sevens(0, 10 ** 39))]
TERMS = PERSON_TERMS + PLACE_TERMS + DAY_TERMS
ZERO = (0,) * 7
NO_TERMS = [
    None, True, 0, "T", "", (), [], ("t",), ("T", 0), ("T", None), ["T"], (("T",),), ("I",), ("you",), ("here",),
    ("D",), ("day", 0), ("day", 0, 0), ("H", "ann"), ("Z", "rome"), ("who",), ("who", -1), ("who", 12), ("who", True),
    ("who", False), ("who", "0"), ("who", 0.0), ("who", None), ("who", 0, 0), ("who", 0, 0, 0), (["T"],), ({}, 0), ([], [], []), ("whom", 12), ("whom", -1),
    ("whom", True), ("where", 12), ("where", -1), ("where", False), ("where",), ("name",), ("name", ""), ("name", 3),
    ("name", "Ann"), ("name", "abcdefghi"), ("name", "ann", 0), ["name", "ann"], ("place",), ("place", "Rome"),
    ("place", 0), ("date",), ("date", True), ("date", False), ("date", "0"), ("date", 0.0), ("date", None),
    ("date", 0, 0), ["date", 0], ("today", 0), ("coming", 3), ("somebody",), ("one day",), ("sevens",),
    ("sevens", ("D",)), ("sevens", ("D",), list(ZERO)), ("sevens", ["D"], ZERO), ["sevens", ("D",), ZERO],
    ("sevens", "D", ZERO), ("sevens", ("d",), ZERO), ("sevens", ("T",), ZERO), ("sevens", ("D", 0), ZERO),
    ("sevens", ("day", 0, 0), ZERO), ("sevens", ("D", "D"), ZERO), ("sevens", ("day",), ZERO), ("sevens", ("day", 12), ZERO), ("sevens", ("day", -1), ZERO),
    ("sevens", ("day", True), ZERO), ("sevens", ("day", False), ZERO), ("sevens", ("date", 0), ZERO),
    ("sevens", ("who", 0), ZERO), ("sevens", (), ZERO), ("sevens", None, ZERO), ("sevens", ("D",), ZERO[1:]),
    ("sevens", ("D",), ZERO + (0,)), ("sevens", ("D",), (True,) * 7), ("sevens", ("D",), (0, 0, 0, 0, 0, 0, False)),
    ("sevens", ("D",), (0, 0, 0, 0, 0, 0, 1)), ("sevens", ("D",), (1, 2, 3, 4, 5, 6, 7)), ("sevens", ("D",), 0),
    ("sevens", ("D",), ZERO, 0), ("sevens", ("D",), ("even", 0)), ("seven", ("D",), ZERO), (("sevens",), ("D",), ZERO),
    ("sevens", (["D"],), ZERO), ("sevens", (("D",),), ZERO), object(), {"T": 0},
]
NOW = Situation("ann", "bob", 10, "rome")


class TermsTest(Case):
    def test_every_kind_of_term(self):
        for kind, terms in (("person", PERSON_TERMS), ("place", PLACE_TERMS), ("day", DAY_TERMS)):
            for term in terms:
                self.assertEqual(check_term(term), kind)
        for root, w, m in product(ROOTS, range(7), range(-9, 9)):
            self.assertEqual(check_term(("sevens", root, saw_sevens(w, m))), "day")

    def test_things_that_are_nearly_terms(self):
        for thing in NO_TERMS:
            for call in (check_term, weekday_of_term, root_of_term):
                self.refused(BadTerm(), call, thing)
            for call in (day_plus, day_coming, day_last):
                self.refused(BadTerm(), call, thing, 1)
            self.refused(BadTerm(), value_of, thing, NOW)
            self.refused(BadTerm(), value_of, thing, NOW, None)

    def test_functions_on_days_refuse_other_kinds(self):
        for term in PERSON_TERMS + PLACE_TERMS:
            self.refused(BadTerm(), weekday_of_term, term)
            for call in (day_plus, day_coming, day_last):
                self.refused(BadTerm(), call, term, 1)

    def test_days_led_on_as_counted_day_by_day(self):
        for day in range(-9, 16):
            at = Situation("ann", "bob", day, "rome")
            for term in (("date", day), ("sevens", ("D",), even_sevens(0)), ("sevens", ("D",), even_sevens(4)),
                         ("sevens", ("D",), saw_sevens(5, -3))):
                start = value_of(term, at)[1]
                for w in range(7):
                    self.assertEqual(value_of(day_coming(term, w), at), ("date", walked_day(start, w, 1)))
                    self.assertEqual(value_of(day_last(term, w), at), ("date", walked_day(start, w, -1)))
                for k in (0, 1, -30, 31, 1000, -10 ** 30):
                    self.assertEqual(value_of(day_plus(term, k), at), ("date", start + k))

    def test_days_led_on_are_terms_of_the_same_root(self):
        for root in ROOTS:
            term = ("sevens", root, even_sevens(2))
            self.assertEqual(day_plus(term, -5), ("sevens", root, even_sevens(-3)))
            self.assertEqual(day_coming(term, 4), ("sevens", root, saw_sevens(4, 2)))
            self.assertEqual(day_last(term, 4), ("sevens", root, saw_sevens(4, -6)))
            saw = ("sevens", root, saw_sevens(1, 9))
            for w in range(7):
                self.assertEqual(day_coming(saw, w)[2], lead_sevens(saw[2], ("coming", w)))
                self.assertEqual(day_last(saw, w)[2], lead_sevens(saw[2], ("last", w)))
        self.assertEqual(day_plus(("date", 3), 10 ** 39), ("date", 10 ** 39 + 3))
        self.assertEqual(day_coming(("date", 3), 3), ("date", 10))
        self.assertEqual(day_last(("date", 3), 3), ("date", -4))

    def test_weekdays(self):
        for n in range(-20, 20):
            self.assertEqual(weekday_of_term(("date", n)), n % 7)
        for root in ROOTS:
            for w, m in product(range(7), range(-9, 9)):
                self.assertEqual(weekday_of_term(("sevens", root, saw_sevens(w, m))), w)
            for k in (0, 7, -1):
                self.assertIsNone(weekday_of_term(("sevens", root, even_sevens(k))))

    def test_roots(self):
        for term in TERMS:
            if term[0] == "sevens":
                self.assertEqual(root_of_term(term), term[1])
            elif term[0] in ("name", "place", "date"):
                self.assertIsNone(root_of_term(term))
            else:
                self.assertEqual(root_of_term(term), term)


class ValuesTest(Case):
    def test_values_that_look_to_the_situation(self):
        self.assertEqual(value_of(("T",), NOW), ("name", "ann"))
        self.assertEqual(value_of(("H",), NOW), ("name", "bob"))
        self.assertEqual(value_of(("Z",), NOW), ("place", "rome"))
        self.assertEqual(value_of(("sevens", ("D",), saw_sevens(3, 0)), NOW), ("date", 17))
        for day in range(-7, 8):
            self.assertEqual(
                value_of(("sevens", ("D",), saw_sevens(3, 0)), NOW.moved(day - 10)), ("date", walked_day(day, 3, 1)))

    def test_names_places_and_dates_read_no_values(self):
        for term in [("name", "cy"), ("place", "oslo"), ("date", -3)]:
            for values in ((), None, 3, [None], object()):
                self.assertEqual(value_of(term, NOW, values), term)
        for term in [("T",), ("H",), ("Z",), ("sevens", ("D",), even_sevens(0))]:
            self.assertEqual(value_of(term, NOW, None), value_of(term, NOW))

    def test_unknown_parts_read_just_one_entry(self):
        rng = random.Random(61)
        for i in range(12):
            for head, place, value, told in [
                    ("who", 0, "eve", ("name", "eve")), ("whom", 1, "eve", ("name", "eve")),
                    ("where", 3, "oslo", ("place", "oslo")), ("day", 2, -4, ("date", 3))]:
                term = (head, i) if head != "day" else ("sevens", ("day", i), saw_sevens(3, 0))
                for kind in (list, tuple):
                    row = [rng.choice([None, object(), True, "A"]) for _ in range(4)]
                    row[place] = value
                    values = kind([rng.choice([None, 3, "row"]) for _ in range(i)] + [kind(row)])
                    self.assertEqual(value_of(term, NOW, values), told)

    def test_bad_values_with_the_number_of_the_report(self):
        full = [("ann", "bob", 3, "rome")] * 12
        for i in range(12):
            for head, place in [("who", 0), ("whom", 1), ("day", 2), ("where", 3)]:
                term = (head, i) if head != "day" else ("sevens", ("day", i), even_sevens(0))
                for values in (None, 3, "abc", {}, iter(full), object(), (), full[:i]):
                    self.refused(BadValues(i), value_of, term, NOW, values)
                for row in (None, (), full[0][:3], full[0] + ("more",), "abcd", {0: 1}, iter(full[0])):
                    self.refused(BadValues(i), value_of, term, NOW, full[:i] + [row] + full[i + 1:])
                for thing in (NO_WHOLES if place == 2 else [None, 3, True, "", "Ann", ["ann"], ("ann",)]):
                    row = list(full[0])
                    row[place] = thing
                    self.refused(BadValues(i), value_of, term, NOW, full[:i] + [row])
                    others = [object()] * 4
                    others[place] = full[0][place]
                    value_of(term, NOW, full[:i] + [others])
            self.refused(BadValues(i), value_of, ("who", i), NOW)


if __name__ == "__main__":
    unittest.main()
