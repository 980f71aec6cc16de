"""[4.6], [4.7]: rests and differences of days under facts."""

import random
import unittest

from tests.factkit import CLASH, D, MARKS, NONE, FactCase, day_fits, day_of, fitting_facts, random_day_fact
from tests.test_facts import NO_MARKS
from whosetomorrow.clashes import find_clash
from whosetomorrow.days import difference_of, rests_of, told_difference
from whosetomorrow.errors import BadTerm, NoFit
from whosetomorrow.facts import Facts

TWO = [D, ("day", 0), ("date", 0), ("date", 3), ("date", -4)]
THREE = [D, ("day", 0), ("day", 4), ("date", 2)]
EDGE = 36


def spread(numbers):
    """Return the least and the greatest number; one near the edge of what was tried stands for none."""
    low, high = min(numbers), max(numbers)
    return (None if low < -EDGE else low, None if high > EDGE else high)


class CountedDayByDayTest(FactCase):
    def check_all(self, rows, marks, fits):
        facts = Facts(rows)
        for mark in marks:
            self.assertEqual(rests_of(facts, mark), tuple(sorted({day_of(mark, days) % 7 for days in fits})), rows)
        for one in marks:
            for other in marks:
                told = {}
                for days in fits:
                    first, second = day_of(one, days), day_of(other, days)
                    told.setdefault((first % 7, second % 7), []).append(second - first)
                every = [number for numbers in told.values() for number in numbers]
                self.assertEqual(difference_of(facts, one, other), spread(every), (rows, one, other))
                for one_rest in range(7):
                    for other_rest in range(7):
                        found = told_difference(facts, one, other, one_rest, other_rest)
                        if (one_rest, other_rest) not in told:
                            self.assertIsNone(found, (rows, one, other, one_rest, other_rest))
                            continue
                        numbers = told[(one_rest, other_rest)]
                        self.assertEqual(found, spread(numbers), (rows, one, other, one_rest, other_rest))
                        inner = [n for n in range(-EDGE + 7, EDGE - 6) if (n - other_rest + one_rest) % 7 == 0]
                        low = -EDGE if found[0] is None else found[0]
                        high = EDGE if found[1] is None else found[1]
                        self.assertEqual(
                            [n for n in inner if n in numbers], [n for n in inner if low <= n <= high], rows)

    def test_two_days_and_dates(self):
        rng = random.Random(601)
        seen = 0
        while seen < 25:
            rows = [random_day_fact(rng, TWO, 6) for _ in range(rng.randint(0, 4))]
            fits = day_fits(rows, TWO[:2])
            if fits and find_clash(Facts(rows)) is None:
                seen += 1
                self.check_all(rows, rng.sample(TWO, 3), fits)

    def test_three_days(self):
        rng = random.Random(602)
        seen = 0
        while seen < 25:
            # Both bounds of each fact are told, so that all days are near date 2.
            rows = [("between", ("date", 2), D, -3, rng.randint(-3, 8))]
            for one, other in ((D, ("day", 0)), (rng.choice([D, ("day", 0)]), ("day", 4)), rng.sample(THREE, 2)):
                low = rng.randint(-6, 4)
                rows.append(("between", one, other, low, low + rng.randint(0, 9)))
            rows += [("weekday", rng.choice(THREE[:3]), rng.randint(0, 6)) for _ in range(rng.randint(0, 2))]
            fits = day_fits(rows, THREE, 30)
            if fits:
                seen += 1
                self.check_all(rows, rng.sample(THREE, 2), fits)

    def test_four_days_of_which_two_have_rests(self):
        rng = random.Random(603)
        marks = [("day", i) for i in range(4)]
        seen = 0
        while seen < 25:
            rows = [("between", ("date", 0), marks[0], 0, 6), ("weekday", marks[0], rng.randint(0, 6)),
                    ("weekday", marks[2], rng.randint(0, 6))]
            for _ in range(5):
                one, other = rng.sample(marks, 2)
                low = rng.randint(-4, 3)
                rows.append(("between", one, other, low, low + rng.randint(3, 9)))
            fits = day_fits(rows, marks, 24)
            if fits and len({day_of(marks[3], days) for days in fits}) > 1:
                seen += 1
                told = [days[marks[3]] - days[marks[1]] for days in fits]
                self.assertEqual(difference_of(Facts(rows), marks[1], marks[3]), (min(told), max(told)), rows)


class NamedEdgesTest(FactCase):
    def test_the_example_of_bounds_that_need_not_be_met(self):
        a, b, c, u, v = [("day", i) for i in range(5)]
        rows = [("weekday", a, 1), ("weekday", b, 1), ("weekday", c, 1), ("between", a, c, 7, None),
                ("between", a, v, None, 4), ("between", b, v, None, 0), ("between", b, u, 0, None),
                ("between", u, c, None, 3)]
        facts = Facts(rows)
        self.assertEqual(difference_of(facts, u, v), (None, -3))
        self.assertEqual(difference_of(facts, v, u), (3, None))
        found = [told_difference(facts, u, v, one, other) for one in range(7) for other in range(7)]
        self.assertEqual(max(told[1] for told in found if told is not None), -3)

    def test_without_facts(self):
        self.assertEqual(rests_of(NONE, D), tuple(range(7)))
        self.assertEqual(rests_of(NONE, ("date", -1)), (6,))
        self.assertEqual(difference_of(NONE, D, ("day", 0)), (None, None))
        self.assertEqual(difference_of(NONE, D, D), (0, 0))
        self.assertEqual(difference_of(NONE, D, ("date", 3)), (None, None))
        self.assertEqual(difference_of(NONE, ("date", 3), ("date", -10 ** 40)), (-10 ** 40 - 3, -10 ** 40 - 3))
        self.assertEqual(told_difference(NONE, D, ("day", 0), 3, 4), (None, None))

    def test_none_on_either_side(self):
        for low, high in [(2, None), (None, 5), (2, 5), (None, None)]:
            facts = Facts([("between", D, ("day", 3), low, high)])
            self.assertEqual(difference_of(facts, D, ("day", 3)), (low, high))
            back = (None if high is None else -high, None if low is None else -low)
            self.assertEqual(difference_of(facts, ("day", 3), D), back)
        facts = Facts([("between", D, ("day", 3), 2, None)])
        self.assertEqual(told_difference(facts, D, ("day", 3), 1, 1), (7, None))
        self.assertEqual(told_difference(facts, ("day", 3), D, 1, 1), (None, -7))
        self.assertEqual(told_difference(facts, D, ("day", 3), 1, 3), (2, None))

    def test_one_mark_given_twice(self):
        facts = Facts([("weekday", D, 2)])
        self.assertEqual(told_difference(facts, D, D, 2, 2), (0, 0))
        self.assertIsNone(told_difference(facts, D, D, 3, 3))
        self.assertIsNone(told_difference(facts, D, D, 2, 3))
        self.assertIsNone(told_difference(NONE, D, D, 2, 3))
        self.assertEqual(told_difference(NONE, D, D, 3, 3), (0, 0))
        self.assertEqual(told_difference(NONE, ("date", 5), ("date", 5), 5, 5), (0, 0))

    def test_dates_with_another_rest(self):
        self.assertEqual(told_difference(NONE, ("date", 8), ("date", 19), 1, 5), (11, 11))
        self.assertIsNone(told_difference(NONE, ("date", 8), ("date", 19), 1, 4))
        self.assertIsNone(told_difference(NONE, ("date", 8), ("date", 19), 0, 5))
        self.assertIsNone(told_difference(NONE, ("date", 8), D, 0, 5))
        self.assertEqual(told_difference(NONE, D, ("date", -1), 0, 6), (None, None))
        facts = Facts([("between", ("date", 3), D, 0, 6)])
        self.assertEqual(rests_of(facts, D), tuple(range(7)))
        self.assertEqual(told_difference(facts, ("date", 10), D, 3, 3), (-7, -7))
        self.assertEqual(difference_of(facts, ("date", 10), D), (-7, -1))

    def test_rests_by_bounds_alone(self):
        facts = Facts([("between", ("date", 0), D, 12, 15), ("between", D, ("day", 9), 1, 1)])
        self.assertEqual(rests_of(facts, D), (0, 1, 5, 6))
        self.assertEqual(rests_of(facts, ("day", 9)), (0, 1, 2, 6))
        self.assertEqual(rests_of(facts, ("day", 8)), tuple(range(7)))
        big = 10 ** 60
        facts = Facts([("between", ("date", big), D, 0, 0)])
        self.assertEqual(rests_of(facts, D), (big % 7,))
        self.assertEqual(difference_of(facts, D, ("date", 0)), (-big, -big))

    def test_facts_on_persons_change_nothing(self):
        rng = random.Random(604)
        for _ in range(40):
            facts = fitting_facts(rng, 6)
            days = Facts([fact for fact in facts if fact[0] in ("between", "weekday")])
            for one in MARKS:
                self.assertEqual(rests_of(facts, one), rests_of(days, one))
                self.assertEqual(difference_of(facts, one, MARKS[0]), difference_of(days, one, MARKS[0]))

    def test_errors(self):
        for thing in NO_MARKS:
            self.refused(BadTerm(), rests_of, NONE, thing)
            self.refused(BadTerm(), difference_of, NONE, thing, D)
            self.refused(BadTerm(), difference_of, NONE, D, thing)
            self.refused(BadTerm(), told_difference, NONE, thing, D, 0, 0)
            self.refused(BadTerm(), told_difference, NONE, D, thing, 0, 0)
        for one in (D, None):
            self.refused(NoFit((0, 2)), rests_of, CLASH, one)
            self.refused(NoFit((0, 2)), difference_of, CLASH, one, one)
            self.refused(NoFit((0, 2)), told_difference, CLASH, one, one, 0, 0)


if __name__ == "__main__":
    unittest.main()
