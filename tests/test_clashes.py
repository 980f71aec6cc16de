"""[4.3], [4.4]: whether facts clash, and why."""

import itertools
import random
import unittest

from tests.factkit import (
    CLASH, D, MARKS, NONE, PERSONS, SPOTS, FactCase, day_fits, name_fits, random_day_fact, random_name_fact,
)
from tests.helper import NO_WHOLES
from whosetomorrow.clashes import find_clash
from whosetomorrow.facts import Facts
from whosetomorrow.reasons import Reason, clash_reason, reason_fault

FEW_MARKS = [D, ("day", 0), ("date", 0), ("date", 3)]
FEW_PERSONS = [("T",), ("H",), ("who", 0), ("name", "ann"), ("name", "bob")]
FEW_SPOTS = [("Z",), ("where", 11), ("place", "rome"), ("place", "ann")]


def has_fit(rows):
    """Tell by trying whether facts on few things have a fit."""
    return bool(
        day_fits(rows, FEW_MARKS, 24)
        and name_fits([fact for fact in rows if fact[1] in FEW_PERSONS], FEW_PERSONS[:3], "name",
                      ["ann", "bob", "x", "y", "z"])
        and name_fits([fact for fact in rows if fact[1] in FEW_SPOTS], FEW_SPOTS[:2], "place", ["rome", "ann", "x", "y"])
    )


def few_facts(rng):
    """Return random facts on few things."""
    rows = []
    for _ in range(rng.randint(0, 5)):
        rows.append(rng.choice([
            random_day_fact(rng, FEW_MARKS, 4), random_name_fact(rng, FEW_PERSONS), random_name_fact(rng, FEW_SPOTS)]))
    return rows


def monday_ring(gap):
    """Return facts whose days clash only by their rests; the gap is what is left between two Mondays."""
    a, b = ("day", 0), ("day", 1)
    return [("weekday", a, 1), ("weekday", b, 1), ("between", a, b, 1, gap)]


class FindClashTest(FactCase):
    def test_against_all_sets_tried_by_size_and_order(self):
        rng = random.Random(501)
        clashes = fits = 0
        for _ in range(160):
            rows = few_facts(rng)
            told = None
            if not has_fit(rows):
                for size in range(len(rows) + 1):
                    for numbers in itertools.combinations(range(len(rows)), size):
                        if told is None and not has_fit([rows[number] for number in numbers]):
                            told = numbers
            self.assertEqual(find_clash(Facts(rows)), told, rows)
            clashes += told is not None
            fits += told is None
        self.assertGreater(min(clashes, fits), 30)

    def test_no_facts_and_facts_that_clash_by_themselves(self):
        self.assertIsNone(find_clash(NONE))
        for fact in [
                ("unlike", ("T",), ("T",)), ("same", ("name", "ann"), ("name", "bob")),
                ("same", ("place", "rome"), ("place", "ann")), ("between", D, D, 1, None), ("between", D, D, None, -1),
                ("between", D, ("day", 0), 3, 2), ("between", ("date", 3), ("date", 5), 3, None),
                ("between", ("date", 3), ("date", 5), None, 1), ("weekday", ("date", 3), 4),
                ("between", ("date", 10 ** 30), ("date", 0), -10 ** 30 + 1, None)]:
            self.assertEqual(find_clash(Facts([fact])), (0,))
            self.assertEqual(find_clash(Facts([("same", ("T",), ("T",)), fact])), (1,))
        for fact in [
                ("unlike", ("T",), ("H",)), ("same", ("name", "ann"), ("T",)), ("same", ("T",), ("T",)),
                ("unlike", ("name", "ann"), ("name", "bob")), ("between", D, D, None, 0), ("between", D, D, 0, None),
                ("between", ("date", 3), ("date", 5), 2, 2), ("weekday", ("date", 3), 3), ("weekday", ("date", -1), 6)]:
            self.assertIsNone(find_clash(Facts([fact])))

    def test_the_fewest_and_of_those_the_first(self):
        first = [("same", ("T",), ("name", "ann")), ("same", ("T",), ("H",)), ("same", ("H",), ("name", "bob"))]
        self.assertEqual(find_clash(Facts(first)), (0, 1, 2))
        self.assertEqual(find_clash(Facts(first + [("weekday", D, 1), ("weekday", D, 2)])), (3, 4))
        self.assertEqual(find_clash(Facts(first + [("same", ("T",), ("name", "cy"))])), (0, 3))
        self.assertEqual(find_clash(Facts([("weekday", D, 1), ("weekday", D, 1), ("weekday", D, 2)])), (0, 2))
        self.assertEqual(find_clash(Facts([("weekday", D, 2), ("weekday", D, 1), ("weekday", D, 1)])), (0, 1))
        self.assertEqual(find_clash(CLASH), (0, 2))

    def test_names_of_persons_are_no_names_of_places(self):
        rows = [("same", ("T",), ("name", "ann")), ("same", ("Z",), ("place", "bob")), ("same", ("T",), ("H",))]
        self.assertIsNone(find_clash(Facts(rows)))

    def test_rests(self):
        for gap in range(1, 7):
            self.assertEqual(find_clash(Facts(monday_ring(gap))), (0, 1, 2))
        self.assertIsNone(find_clash(Facts(monday_ring(7))))
        a, b, c = ("day", 0), ("day", 1), ("day", 2)
        rows = [("weekday", a, 1), ("weekday", b, 3), ("weekday", c, 0)]
        rows += [("between", a, b, 3, None), ("between", b, c, 5, None), ("between", a, c, None, 19)]
        # From weekday 1 to 3 it is 9 days or more, from there to 0 it is 11.
        self.assertEqual(find_clash(Facts(rows)), (0, 1, 2, 3, 4, 5))
        self.assertIsNone(find_clash(Facts(rows[:5] + [("between", a, c, None, 20)])))
        dates = [("weekday", D, 1), ("between", ("date", 1), D, 1, 6)]
        self.assertEqual(find_clash(Facts(dates)), (0, 1))
        self.assertIsNone(find_clash(Facts(dates[:1] + [("between", ("date", 1), D, 1, 7)])))

    def test_bounds_that_need_not_be_met(self):
        # The example of [4.7]: the sums let v be u's day, but no fit does; still the days do not clash.
        a, b, c, u, v = [("day", i) for i in range(5)]
        rows = [("weekday", a, 1), ("weekday", b, 1), ("weekday", c, 1), ("between", a, c, 7, None),
                ("between", a, v, None, 4), ("between", b, v, None, 0), ("between", b, u, 0, None),
                ("between", u, c, None, 3)]
        self.assertIsNone(find_clash(Facts(rows)))


class ClashReasonTest(FactCase):
    def test_a_reason_exactly_if_the_facts_clash(self):
        rng = random.Random(502)
        seen = {}
        for at in range(3000):
            marks = MARKS if at % 2 else [("day", i) for i in range(4)] + [D, ("date", 5)]
            rows = [random_day_fact(rng, marks, 6) for _ in range(rng.randint(0, 8))]
            if at % 4 == 2:
                marks = [D, ("day", 1), ("day", 2)]
                rows = [("weekday", mark, rng.randint(0, 6)) for mark in marks] + [
                    ("between", *rng.sample(marks, 2), None, rng.randint(-4, 12)) for _ in range(5)]
            if at % 4 == 0:
                rows = [rng.choice([random_name_fact(rng, PERSONS), random_name_fact(rng, SPOTS)]) for _ in rows]
            facts = Facts(rows)
            reason = clash_reason(facts)
            self.assertEqual(reason is None, find_clash(facts) is None)
            if reason is not None:
                self.assertIsInstance(reason, Reason)
                self.assertIsNone(reason_fault(facts, reason), (rows, reason.row))
                self.tuples_only(reason.row)
                what = reason.what if reason.what != "ring" else ("ring", min(len(reason.row), 3))
                seen[what] = seen.get(what, 0) + 1
        self.assertEqual(
            set(seen), {"names", "unlike", "weekday", "weekdays", ("ring", 1), ("ring", 2), ("ring", 3)})

    def test_each_of_the_five(self):
        for rows, reason in [
                ([("same", ("name", "bob"), ("T",)), ("same", ("name", "ann"), ("T",))], "names"),
                ([("same", ("T",), ("H",)), ("unlike", ("H",), ("T",))], "unlike"),
                ([("unlike", ("Z",), ("Z",))], "unlike"), ([("weekday", ("date", 8), 2)], "weekday"),
                ([("weekday", D, 2), ("weekday", D, 3)], "weekdays"), ([("between", D, D, 1, None)], "ring"),
                (monday_ring(6), "ring")]:
            told = clash_reason(Facts(rows))
            self.assertEqual(told.what, reason)
            self.assertIsNone(reason_fault(Facts(rows), told))
        self.assertIsNone(clash_reason(NONE))
        self.assertIsNone(clash_reason(Facts(monday_ring(7))))

    def test_large_numbers(self):
        big = 10 ** 60
        rows = [("between", D, ("day", 0), big, None), ("between", ("date", big), D, 0, None),
                ("between", ("day", 0), ("date", 0), -2 * big + 1, None)]
        self.assertIsNone(reason_fault(Facts(rows), clash_reason(Facts(rows))))
        self.assertIsNone(clash_reason(Facts(rows[:2] + [("between", ("day", 0), ("date", 0), -2 * big, None)])))


class ReasonFaultTest(FactCase):
    NAMES = Facts([
        ("same", ("T",), ("name", "ann")), ("same", ("H",), ("T",)), ("same", ("H",), ("name", "bob")),
        ("unlike", ("who", 1), ("H",)), ("same", ("T",), ("who", 1)), ("weekday", D, 2)])
    ANN, BOB = ("name", "ann"), ("name", "bob")

    def fault(self, facts, what, row):
        return reason_fault(facts, Reason(what, row))

    def test_names(self):
        good = ((self.ANN, ("T",), ("H",), self.BOB), (0, 1, 2))
        self.assertIsNone(self.fault(self.NAMES, "names", good))
        self.assertIsNone(self.fault(self.NAMES, "names", (good[0][::-1], good[1][::-1])))
        for row, word in [
                ((good[0], (0, 1, 6)), "number"), ((good[0], (0, 1, -1)), "number"), ((good[0], (0, 1, 3)), "number"),
                ((good[0], (0, 1, 5)), "number"), ((good[0], (1, 0, 2)), "chain"), ((good[0], (0, 1, 1)), "chain"),
                ((((),) + good[0][1:], good[1]), "chain"), (((("T",), ("H",), self.BOB), (1, 2)), "ends"),
                (((self.ANN, ("T",), ("H",)), (0, 1)), "ends"), (((self.ANN, ("T",), self.ANN), (0, 0)), "ends"),
                (((self.ANN,), ()), "ends"), (((("T",),), ()), "ends"), ((((),), ()), "ends"),
                (((self.ANN, ("T",), ("H",), ("T",), ("H",), self.BOB), (0, 1, 1, 1, 2)), None),
                (((("place", "x"),), ()), "ends"), (((("T",), ("H",), ("T",)), (1, 1)), "ends"),
                (((self.ANN, ("T",), ("who", 1)), (0, 4)), "ends"), (((("who", 1), ("T",), self.ANN), (4, 0)), "ends"),
                (((("who", 1), ("T",), ("H",), self.BOB), (4, 0, 2)), "chain"),
                (((("who", 0), ("who", 1)), (4,)), "chain"), (((("T",), ("who", 2)), (4,)), "chain"),
                (((("who", 1), ("H",)), (4,)), "chain"), (((("H",), ("T",)), (4,)), "chain")]:
            self.assertEqual(self.fault(self.NAMES, "names", row), word)

    def test_names_of_persons_told_by_number_are_no_names(self):
        facts = Facts([("same", ("who", 0), ("who", 1)), ("same", ("whom", 1), ("who", 1))])
        self.assertEqual(self.fault(facts, "names", ((("who", 0), ("who", 1)), (0,))), "ends")
        self.assertEqual(self.fault(facts, "names", ((("who", 0), ("who", 1), ("whom", 1)), (0, 1))), "ends")

    def test_a_thing_that_is_equal_to_a_term_is_none(self):
        row = (3, (("who", 1), ("T",), ("H",)), (4, 1))
        self.assertIsNone(self.fault(self.NAMES, "unlike", row))
        self.assertEqual(self.fault(self.NAMES, "unlike", (3, (("who", True), ("T",), ("H",)), (4, 1))), "chain")
        alone = Facts([("unlike", ("who", 1), ("who", 1))])
        self.assertIsNone(self.fault(alone, "unlike", (0, (("who", 1),), ())))
        self.assertEqual(self.fault(alone, "unlike", (0, (("who", True),), ())), "ends")
        self.assertEqual(self.fault(alone, "unlike", (False, (("who", 1),), ())), "shape")

    def test_unlike(self):
        good = (3, (("who", 1), ("T",), ("H",)), (4, 1))
        for row, word in [
                (good, None), ((0,) + good[1:], "number"), ((6,) + good[1:], "number"), ((-3,) + good[1:], "number"),
                ((3, good[1], (4, 3)), "number"), ((3, good[1], (4, 9)), "number"), ((3, good[1], (1, 4)), "chain"),
                ((3, good[1][::-1], (1, 4)), "ends"), ((3, good[1][:2], (4,)), "ends"),
                ((3, good[1][1:], (1,)), "ends"), ((3, (("H",),), ()), "ends"),
                ((3, (("who", 1), ("T",), ("H",), ("T",), ("H",)), (4, 1, 1, 1)), None)]:
            self.assertEqual(self.fault(self.NAMES, "unlike", row), word)

    def test_weekday_and_weekdays(self):
        facts = Facts([("weekday", ("date", 8), 2), ("weekday", ("date", 8), 1), ("weekday", D, 1), ("weekday", D, 2),
                       ("weekday", ("day", 1), 2), ("same", ("T",), ("T",))])
        for what, row, word in [
                ("weekday", (0,), None), ("weekday", (1,), "rests"), ("weekday", (2,), "rests"),
                ("weekday", (5,), "number"), ("weekday", (6,), "number"), ("weekday", (-1,), "number"),
                ("weekdays", (2, 3), None), ("weekdays", (3, 2), None), ("weekdays", (0, 1), None),
                ("weekdays", (2, 4), "rests"), ("weekdays", (3, 4), "rests"), ("weekdays", (2, 2), "rests"),
                ("weekdays", (2, 5), "number"), ("weekdays", (5, 2), "number"), ("weekdays", (2, 7), "number")]:
            self.assertEqual(self.fault(facts, what, row), word)

    def test_ring_of_one_stretch(self):
        facts = Facts([
            ("between", D, ("day", 0), 2, 5), ("between", ("day", 0), ("date", 9), 1, None),
            ("between", D, ("date", 11), None, 4), ("weekday", D, 2), ("between", D, ("date", 11), None, 2)])
        # D to day 0 to date 9 takes 3 days or more; D to date 11 at most 4, so that date 9 is at most 2 behind.
        back = ((1, "low"), (0, "low"), (2, "high"))
        for ring, word in [
                ((back,), None), ((back[1:] + back[:1],), None), ((back[:2] + ((4, "high"),),), None),
                ((((0, "low"), (0, "high")),), "sum"), ((back + back,), None), ((back[:2],), "road"),
                (((back[0], back[2], back[1]),), "road"), ((((0, "high"),),), "road"), (((back[2],),), "road"),
                ((((1, "high"),) + back[1:],), "side"), ((back[:2] + ((2, "low"),),), "side"),
                ((((3, "low"),) + back[1:],), "number"), ((((5, "low"),) + back[1:],), "number"),
                ((((1, "high"), (7, "low")),), "number"), (((back[0], (1, "high")),), "side")]:
            self.assertEqual(self.fault(facts, "ring", ring), word)
        self.assertEqual(self.fault(Facts([("between", D, D, None, 0)]), "ring", (((0, "high"),),)), "sum")
        self.assertIsNone(self.fault(Facts([("between", D, D, None, -1)]), "ring", (((0, "high"),),)))
        dates = Facts([("between", ("date", 3), ("date", 5), None, 1), ("between", ("date", 3), ("date", 5), None, 2)])
        self.assertIsNone(self.fault(dates, "ring", (((0, "high"),),)))
        self.assertEqual(self.fault(dates, "ring", (((1, "high"),),)), "sum")
        self.assertIsNone(self.fault(dates, "ring", (((1, "high"),), ((0, "high"),))))

    def test_ring_of_several_stretches(self):
        facts = Facts(monday_ring(6) + [("between", ("day", 0), ("day", 1), 0, 8)])
        ring = (((2, "high"),), ((2, "low"),))
        for row, word in [
                (ring, None), (ring[::-1], None), ((ring[0] + ring[1],), "sum"), (ring + ring, None),
                ((((3, "high"),), ((2, "low"),)), "sum"), ((((3, "high"),), ((3, "low"),)), "sum"),
                ((((2, "high"),), ((3, "low"),)), "sum"), ((((2, "high"),), ((2, "high"),)), "road")]:
            self.assertEqual(self.fault(facts, "ring", row), word)
        bare = Facts(monday_ring(6)[1:])
        self.assertEqual(self.fault(bare, "ring", (((1, "high"),), ((1, "low"),))), "rests")
        self.assertEqual(self.fault(bare, "ring", (((1, "low"),), ((1, "high"),))), "rests")
        self.assertEqual(self.fault(bare, "ring", (((1, "high"), (1, "low")),)), "sum")
        # The first "weekday" fact of a post tells its rest; date 0 has rest 0 whatever facts say of dates.
        twice = Facts([("weekday", D, 1), ("weekday", D, 3), ("weekday", ("date", 0), 5), ("between", ("date", 0), D, 2, 7)])
        self.assertIsNone(self.fault(twice, "ring", (((3, "high"),), ((3, "low"),))))
        other = Facts([("weekday", D, 3), ("weekday", D, 1), ("between", ("date", 0), D, 2, 7)])
        self.assertEqual(self.fault(other, "ring", (((2, "high"),), ((2, "low"),))), "sum")

    def test_shape(self):
        chain = ((self.ANN, ("T",)), (0,))
        legs = (((0, "high"),),)
        for what, row in [
                (None, chain), ("name", chain), ("Names", chain), ("", ()), (3, ()), ([], ()), (("names",), chain),
                ("names", None), ("names", ()), ("names", chain[:1]), ("names", chain + (0,)), ("names", list(chain)),
                ("names", (list(chain[0]), chain[1])), ("names", (chain[0], [0])), ("names", (chain[0], ())),
                ("names", (chain[0], (0, 1))), ("names", ((), ())), ("names", (chain[0], (True,))),
                ("names", (chain[0], ("0",))), ("names", (("T", self.ANN), (0,))), ("names", ((["T"], self.ANN), (0,))),
                ("unlike", (0,)), ("unlike", chain), ("unlike", (True,) + chain), ("unlike", (None,) + chain),
                ("unlike", (0, chain[0], ())), ("unlike", [0, chain[0], chain[1]]), ("unlike", (0, (), ())),
                ("weekday", 0), ("weekday", ()), ("weekday", (0, 0)), ("weekday", [0]), ("weekday", (True,)),
                ("weekday", (0.0,)), ("weekdays", (0,)), ("weekdays", (0, 1, 2)), ("weekdays", (0, False)),
                ("weekdays", [0, 1]), ("weekdays", ((0,), (1,))),
                ("rings", legs), ("sum", legs), (None, legs), ("ring", ()), ("ring", ((),)), ("ring", legs[0]), ("ring", list(legs)), ("ring", (list(legs[0]),)),
                ("ring", (([0, "high"],),)), ("ring", (((0,),),)), ("ring", (((0, "high", 1),),)),
                ("ring", (((True, "high"),),)), ("ring", (((0, "top"),),)), ("ring", (((0, None),),)),
                ("ring", legs + ((),)), ("ring", (((0, ["high"]),),)), ("ring", None)]:
            self.assertEqual(self.fault(NONE, what, row), "shape")
        for thing in NO_WHOLES:
            self.assertEqual(self.fault(NONE, "weekday", (thing,)), "shape")
            self.assertEqual(self.fault(NONE, "ring", (((thing, "high"),),)), "shape")

    def test_which_word_comes_first_of_several(self):
        facts = Facts([("between", D, ("day", 0), None, 4), ("between", ("day", 0), D, None, 4), ("same", ("T",), ("H",)),
                       ("unlike", ("T",), ("H",)), ("weekday", ("date", 1), 1)])
        for what, row, word in [
                ("ring", (((9, "low"), (9, "up")),), "shape"), ("ring", (((0, "low"), (2, "high")),), "number"),
                ("ring", (((0, "low"), (0, "high")),), "side"), ("ring", (((0, "high"),), ((0, "high"),)), "road"),
                ("ring", (((0, "high"),), ((1, "high"),)), "rests"), ("ring", (((0, "high"), (1, "high")),), "sum"),
                ("names", ((("T",), ("T",), ("Z",)), (2, 3)), "number"), ("names", ((("T",), ("T",)), (2,)), "chain"),
                ("names", ((("T",), ("H",)), (2,)), "ends"), ("unlike", (2, (("T",), ("T",)), (2,)), "number"),
                ("unlike", (3, (("T",), ("T",)), (2,)), "chain"), ("weekday", (4,), "rests"),
                ("weekdays", (4, 0), "number")]:
            self.assertEqual(self.fault(facts, what, row), word)

    def test_a_result_keeps_what_it_is_given(self):
        row = [1]
        self.assertIs(Reason("ring", row).row, row)
        self.assertEqual(vars(Reason(row=2, what=1)), {"what": 1, "row": 2})
        self.equal_only((Reason("weekday", (1,)), Reason("weekday", (1,))), [
            Reason("weekday", (2,)), Reason("weekdays", (1,)), ("weekday", (1,))])


if __name__ == "__main__":
    unittest.main()
