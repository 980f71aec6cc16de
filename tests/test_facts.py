"""[4.1], [4.2]: facts, where they are true, and facts led along."""

import random
import unittest

from tests.factkit import CLASH, MARKS, NONE, PERSONS, SPOTS, D, random_day_fact, random_facts, random_name_fact
from tests.helper import NO_WHOLES, Case, random_situation
from tests.test_terms import DAY_TERMS, NO_TERMS, PERSON_TERMS, PLACE_TERMS
from whosetomorrow.errors import BadFact, BadTerm, BadValues, NoFact
from whosetomorrow.facts import Facts, check_fact, check_mark, facts_along, first_untrue, is_true_at
from whosetomorrow.situations import Situation

GOOD = [
    ("same", ("T",), ("H",)), ("unlike", ("T",), ("T",)), ("same", ("Z",), ("place", "rome")),
    ("unlike", ("name", "ann"), ("name", "ann")), ("same", ("who", 0), ("whom", 11)), ("same", ("where", 3), ("Z",)),
    ("between", D, ("day", 0), None, None), ("between", D, D, 3, -3), ("between", ("date", -5), ("day", 11), 0, None),
    ("between", ("date", 10 ** 40), D, -10 ** 40, 10 ** 40), ("between", D, ("date", 1), None, 0),
    ("weekday", D, 0), ("weekday", ("day", 11), 6), ("weekday", ("date", -1), 3),
]
NO_MARKS = [
    None, True, 0, "D", (), [], ("T",), ("d",), ["D"], ("D", 0), ("D", None), ("day",), ("day", 12), ("day", -1),
    ("day", True), ("day", False), ("day", "0"), ("day", 0.0), ("day", 0, 0), ["day", 0], ("date",), ("date", True),
    ("date", None), ("date", "0"), ("date", 1.0), ("date", 0, 0), ["date", 0], ("sevens", D, (0,) * 7), ("name", "ann"),
    ("place", "rome"), ("who", 0), ("today", 0), (D,), object(), {}, len,
]
NO_FACTS = [
    None, True, 3, "same", (), [], ("same",), ("same", ("T",)), ["same", ("T",), ("H",)], ("same", ("T",), ("H",), 0),
    ("Same", ("T",), ("H",)), ("likely", ("T",), ("H",)), (None, ("T",), ("H",)), (["same"], ("T",), ("H",)),
    ("same", ("T",), ("Z",)), ("same", ("Z",), ("H",)), ("unlike", ("name", "ann"), ("place", "ann")),
    ("same", ("sevens", D, (0,) * 7), ("sevens", D, (0,) * 7)), ("same", D, D), ("same", ("date", 1), ("date", 1)),
    ("unlike", ("T",), ["H"]), ("same", ("who", 12), ("T",)), ("same", ("T",), ("who", True)), ("same", "T", "H"),
    ("between", D, D), ("between", D, D, 0), ("between", D, D, 0, 1, 2), ("between", D, D, True, None),
    ("between", D, D, None, False), ("between", D, D, "0", 1), ("between", D, D, 0, 1.0), ("between", D, ("T",), 0, 1),
    ("between", ("sevens", D, (0,) * 7), D, 0, 1), ["between", D, D, 0, 1], ("between", ["D"], D, 0, 1),
    ("weekday", D), ("weekday", D, 7), ("weekday", D, -1), ("weekday", D, True), ("weekday", D, False),
    ("weekday", D, None), ("weekday", D, "1"), ("weekday", D, 1.0), ("weekday", ("T",), 1), ("weekday", D, 1, 2),
    ("weekday", ("date", True), 1), ("weekday", D, D), ("weekday", D, 1, 2, 3), ("betwixt", D, D, 0, 1), (None, D, D, 0, 1), ("same", ("T",), ("H",), 0, 1), object(),
]
FULL = (("pat", "quin", 3, "york"),) * 12


class CheckTest(Case):
    def test_marks(self):
        for mark in MARKS + [("day", 11), ("date", -10 ** 40)]:
            self.assertIs(check_mark(mark), mark)
        for thing in NO_MARKS:
            self.refused(BadTerm(), check_mark, thing)

    def test_facts(self):
        for fact in GOOD:
            self.assertIs(check_fact(fact), fact)
        for thing in NO_FACTS + NO_WHOLES:
            self.refused(BadFact(0), check_fact, thing)

    def test_terms_and_marks_within(self):
        for head in ("same", "unlike"):
            for terms in (PERSON_TERMS, PLACE_TERMS):
                for term in terms:
                    self.assertEqual(check_fact((head, term, terms[-1])), (head, term, terms[-1]))
                for term in DAY_TERMS + NO_TERMS:
                    self.refused(BadFact(0), check_fact, (head, term, terms[0]))
                    self.refused(BadFact(0), check_fact, (head, terms[0], term))
            self.refused(BadFact(0), check_fact, (head, PERSON_TERMS[0], PLACE_TERMS[0]))
            self.refused(BadFact(0), check_fact, (head, PLACE_TERMS[0], PERSON_TERMS[0]))
        for thing in NO_MARKS:
            self.refused(BadFact(0), check_fact, ("weekday", thing, 3))
            self.refused(BadFact(0), check_fact, ("between", thing, D, 0, 1))
            self.refused(BadFact(0), check_fact, ("between", D, thing, 0, 1))


class FactsTest(Case):
    def test_rows_len_and_iteration(self):
        for count in range(9):
            for kind in (list, tuple):
                facts = Facts(kind(GOOD[:count]))
                self.assertEqual(facts.rows, tuple(GOOD[:count]))
                self.assertEqual(len(facts), count)
                self.assertEqual(list(facts), GOOD[:count])
        self.assertEqual(Facts(rows=GOOD[:2]).rows, tuple(GOOD[:2]))

    def test_which_entry_is_refused(self):
        for thing in (None, "same", {}, {GOOD[0]}, iter(GOOD), 3, NONE):
            self.refused(BadFact(0), Facts, thing)
        for bad in NO_FACTS:
            for at in range(8):
                self.refused(BadFact(at), Facts, GOOD[:at] + [bad] + GOOD[:3])
                self.refused(BadFact(at), Facts, GOOD[:at] + [bad, None] + GOOD)
        self.refused(BadFact(8), Facts, GOOD[:9])
        self.refused(BadFact(8), Facts, GOOD[:8] + [None])
        self.refused(BadFact(7), Facts, GOOD[:7] + [None] + GOOD)

    def test_later_changes_of_a_list_change_nothing(self):
        rows = GOOD[:3]
        facts = Facts(rows)
        rows.append(GOOD[3])
        rows[0] = None
        self.assertEqual(facts.rows, tuple(GOOD[:3]))

    def test_with_fact(self):
        facts = Facts(GOOD[:3])
        more = facts.with_fact(GOOD[5])
        self.assertEqual((facts.rows, more.rows), (tuple(GOOD[:3]), tuple(GOOD[:3]) + (GOOD[5],)))
        self.assertIsInstance(more, Facts)
        for bad in NO_FACTS:
            self.refused(BadFact(3), facts.with_fact, bad)
            self.refused(BadFact(8), Facts(GOOD[:8]).with_fact, bad)
        self.refused(BadFact(8), Facts(GOOD[:8]).with_fact, GOOD[0])
        self.assertEqual(len(Facts(GOOD[:7]).with_fact(GOOD[0])), 8)

    def test_without_fact(self):
        facts = Facts(GOOD[:3])
        self.assertEqual(facts.without_fact(1), Facts([GOOD[0], GOOD[2]]))
        self.assertEqual(facts.without_fact(0), Facts(GOOD[1:3]))
        self.assertEqual(Facts(GOOD[:1]).without_fact(0), NONE)
        self.assertEqual(facts, Facts(GOOD[:3]))
        for number in NO_WHOLES + [-1, 3, 8]:
            with self.assertRaises(NoFact) as caught:
                facts.without_fact(number)
            self.assertIs(caught.exception.number, number)
        self.refused(NoFact(0), NONE.without_fact, 0)

    def test_equal_by_rows(self):
        self.equal_only((Facts(GOOD[:3]), Facts(tuple(GOOD[:3]))), [
            NONE, Facts(GOOD[:2]), Facts([GOOD[1], GOOD[0], GOOD[2]]), tuple(GOOD[:3])])


class IsTrueAtTest(Case):
    NOW = Situation("ann", "bob", 10, "rome")

    def test_against_a_plain_reckoning(self):
        rng = random.Random(401)
        for _ in range(1500):
            at = random_situation(rng)
            names = ["ann", "bob", "cy"]
            values = [(rng.choice(names), rng.choice(names), rng.randint(-9, 9), rng.choice(["rome", "ann"]))
                      for _ in range(12)]
            fact = rng.choice([random_day_fact(rng), random_name_fact(rng, PERSONS), random_name_fact(rng, SPOTS)])
            world = {("T",): at.teller, ("H",): at.hearer, ("Z",): at.place, D: at.day}
            for i, row in enumerate(values):
                world.update(zip([("who", i), ("whom", i), ("day", i), ("where", i)], row))
            one = world.get(fact[1], fact[1][-1])
            if fact[0] == "weekday":
                told = (one - fact[2]) % 7 == 0
            else:
                other = world.get(fact[2], fact[2][-1])
                if fact[0] == "between":
                    low = -10 ** 9 if fact[3] is None else fact[3]
                    high = 10 ** 9 if fact[4] is None else fact[4]
                    told = low <= other - one <= high
                else:
                    told = (one == other) if fact[0] == "same" else (one != other)
            self.assertIs(is_true_at(fact, at, values), told)

    def test_edges(self):
        for fact, told in [
                (("between", D, ("date", 13), 3, 3), True), (("between", D, ("date", 13), 4, None), False),
                (("between", D, ("date", 13), None, 2), False), (("between", ("date", 13), D, -3, -3), True),
                (("between", D, D, None, None), True), (("between", D, D, 1, 0), False),
                (("between", D, D, 0, 0), True), (("weekday", D, 3), True), (("weekday", ("date", -1), 6), True),
                (("same", ("T",), ("name", "ann")), True), (("same", ("Z",), ("place", "rome")), True),
                (("unlike", ("T",), ("T",)), False), (("same", ("name", "ann"), ("name", "bob")), False)]:
            self.assertIs(is_true_at(fact, self.NOW), told)

    def test_bad_fact_comes_ahead_of_bad_values(self):
        for bad in NO_FACTS:
            self.refused(BadFact(0), is_true_at, bad, self.NOW, None)

    def test_x_ahead_of_y(self):
        for heads in (("who", "whom"), ("whom", "who")):
            fact = ("same", (heads[0], 3), (heads[1], 1))
            self.refused(BadValues(3), is_true_at, fact, self.NOW)
            self.refused(BadValues(1), is_true_at, fact, self.NOW, [None] * 3 + [("pat", "quin", 0, "york")])
        fact = ("between", ("day", 5), ("day", 2), 1, 0)
        for values in ((), None, 3, "", {}, FULL[:2]):
            self.refused(BadValues(5), is_true_at, fact, self.NOW, values)
        self.refused(BadValues(2), is_true_at, fact, self.NOW, ((),) * 5 + FULL[:1])
        self.refused(BadValues(2), is_true_at, ("between", D, ("day", 2), None, None), self.NOW)
        self.refused(BadValues(4), is_true_at, ("weekday", ("day", 4), 0), self.NOW, FULL[:4])
        self.refused(BadValues(0), is_true_at, ("weekday", ("day", 0), 0), self.NOW, [("pat", "quin", True, "york")])
        self.refused(BadValues(0), is_true_at, ("same", ("where", 0), ("Z",)), self.NOW, [("pat", "quin", 1, "York")])

    def test_only_what_is_asked_for_is_read(self):
        self.assertTrue(is_true_at(("weekday", ("day", 1), 3), self.NOW, [None, (None, 3, 3, [])]))
        self.assertTrue(is_true_at(("same", ("where", 0), ("place", "oslo")), self.NOW, [[None, None, None, "oslo"]]))


class FirstUntrueTest(Case):
    NOW = Situation("ann", "bob", 10, "rome")

    def test_the_first_one(self):
        true, untrue = ("weekday", D, 3), ("weekday", D, 4)
        for rows, number in [
                ([], None), ([true], None), ([untrue], 0), ([true, untrue, true, untrue], 1), ([true] * 8, None),
                ([true] * 7 + [untrue], 7)]:
            self.assertEqual(first_untrue(Facts(rows), self.NOW), number)

    def test_a_value_missing_ahead_of_and_behind_it(self):
        true, untrue, lacking = ("weekday", D, 3), ("weekday", D, 4), ("weekday", ("day", 6), 3)
        self.assertEqual(first_untrue(Facts([true, untrue, lacking]), self.NOW), 1)
        self.refused(BadValues(6), first_untrue, Facts([true, lacking, untrue]), self.NOW)
        self.refused(BadValues(6), first_untrue, Facts([true, lacking]), self.NOW, FULL[:6])
        self.assertIsNone(first_untrue(Facts([true, lacking]), self.NOW, FULL))
        self.assertEqual(first_untrue(Facts([true, lacking, untrue]), self.NOW, FULL), 2)
        self.assertIsNone(first_untrue(NONE, self.NOW, None))


class FactsAlongTest(Case):
    def test_every_kind(self):
        facts = Facts([
            ("same", ("T",), ("name", "ann")), ("unlike", ("Z",), ("where", 2)), ("between", ("date", 3), D, -2, None),
            ("between", ("day", 1), ("date", -4), None, 5), ("weekday", D, 5), ("weekday", ("date", 3), 3)])
        self.assertEqual(facts_along(facts, 9).rows, (
            ("same", ("T",), ("name", "ann")), ("unlike", ("Z",), ("where", 2)), ("between", ("date", 12), D, -2, None),
            ("between", ("day", 1), ("date", 5), None, 5), ("weekday", D, 0), ("weekday", ("date", 12), 5)))
        self.assertEqual(facts_along(facts, 0), facts)
        self.assertEqual(facts_along(facts, -3).rows[4:], (("weekday", D, 2), ("weekday", ("date", 0), 0)))
        self.assertEqual(facts_along(CLASH, 7).rows[0], CLASH.rows[0])
        self.assertIsInstance(facts_along(NONE, 3), Facts)

    def test_true_where_all_is_led_along(self):
        rng = random.Random(402)
        for _ in range(400):
            facts, at = random_facts(rng, 8), random_situation(rng)
            values = [(rng.choice(["ann", "bob"]), "cy", rng.randint(-9, 9), "rome") for _ in range(12)]
            for days in (rng.randint(-30, 30), 10 ** 30 + rng.randint(0, 6), -10 ** 30 + rng.randint(0, 6)):
                led = [(who, whom, day + days, place) for who, whom, day, place in values]
                told = first_untrue(facts_along(facts, days), at.moved(days), led)
                self.assertEqual(told, first_untrue(facts, at, values))


if __name__ == "__main__":
    unittest.main()
