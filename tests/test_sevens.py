"""[3.2], [3.3]: sevens and hops."""

import random
import unittest

from tests.helper import NO_WHOLES, Case, product, walked_day
from whosetomorrow.errors import BadHop, BadSevens
from whosetomorrow.sevens import (
    even_sevens, lead_sevens, least_hops, led_by, rests_alike, saw_sevens, shape_of_sevens,
)

NO_SEVENS = [
    None, 0, True, "0000000", (), [], [0] * 7, (0,) * 6, (0,) * 8, (True,) * 7, (False,) * 7, (0, 0, 0, 0, 0, 0, False),
    (1, 1, 1, 1, 1, 1, True), (0, 0, 0, 0, 0, 0, 1), (1, 2, 3, 4, 5, 6, 7), (7, 6, 5, 4, 3, 2, 2), (0, 1, 2, 3, 4, 5, 5),
    (0, 0, 0, 0, 0, 0, 7), (7, 6, 5, 4, 3, 2, 9), (0.0,) * 7, ("0",) * 7, (None,) * 7, ((0,) * 7,), range(7),
    ("even", 0), ("saw", 0, 0), ("sevens", ("D",), (0,) * 7), {0: 0}, object(), (7, 6, 5, 4, 3, 2, True),
]
NO_HOPS = [
    None, 3, "plus", (), ("plus",), ("plus", 31), ("plus", -31), ("plus", True), ("plus", False), ("plus", "1"),
    ("plus", 1.0), ("plus", None), ("plus", 1, 1), ["plus", 1], ("minus", 1), (1, "plus"), ("coming",), ("coming", 7),
    ("coming", -1), ("coming", True), ("coming", False), ("coming", None), ("coming", 1, 1), ["coming", 1],
    ("last", 7), ("last", -1), ("last", True), ("last", False), ["last", 1], ("then coming", 1), ("today", 1),
    ("even", 1), (None, 1), (("plus",), 1), ("date", 1), {"plus": 1}, object(),
]


def walked(hops, rest):
    """Return how far hops lead from a day with this rest, counted day by day."""
    day = rest
    for head, entry in hops:
        if head == "plus":
            day += entry
        else:
            day = walked_day(day, entry, 1 if head == "coming" else -1)
    return day - rest


def random_hop(rng):
    """Return a random hop."""
    return rng.choice([
        ("plus", rng.randint(-30, 30)), ("coming", rng.randint(0, 6)), ("last", rng.randint(0, 6))])


def up(number):
    """Return a thirtieth of the absolute value of a number, rounded up."""
    return -(-abs(number) // 30)


class SevensTest(Case):
    def test_even_and_saw(self):
        for k in (0, 1, -5, 10 ** 30):
            self.assertEqual(even_sevens(k), (k,) * 7)
        self.assertEqual(saw_sevens(0, 0), (7, 6, 5, 4, 3, 2, 1))
        self.assertEqual(saw_sevens(3, 0), (3, 2, 1, 7, 6, 5, 4))
        self.assertEqual(saw_sevens(0, -8), (-7, -1, -2, -3, -4, -5, -6))
        for w in range(7):
            for m in list(range(-20, 20)) + [10 ** 30, -10 ** 30]:
                sevens = saw_sevens(w, m)
                self.assertEqual(sorted(sevens), list(range(m + 1, m + 8)))
                self.assertEqual(sevens, tuple(m + ((w - r - m) % 7 or 7) for r in range(7)))
                self.assertEqual({(r + sevens[r]) % 7 for r in range(7)}, {w})
                self.assertEqual(sevens, tuple(walked_day(r + m, w, 1) - r for r in range(7)) if abs(m) < 99 else sevens)

    def test_shapes(self):
        for k in (0, 1, -1, 30, 10 ** 30):
            self.assertEqual(shape_of_sevens(even_sevens(k)), ("even", k))
        for w in range(7):
            for m in list(range(-30, 30)) + [10 ** 30, -10 ** 30]:
                self.assertEqual(shape_of_sevens(saw_sevens(w, m)), ("saw", w, m))

    def test_sevens_that_are_none(self):
        for thing in NO_SEVENS:
            self.refused(BadSevens(), shape_of_sevens, thing)
            self.refused(BadSevens(), lead_sevens, thing, ("plus", 1))
            self.refused(BadSevens(), lead_sevens, thing, None)
            self.refused(BadSevens(), rests_alike, thing, even_sevens(0))
            self.refused(BadSevens(), rests_alike, even_sevens(0), thing)
            self.refused(BadSevens(), least_hops, thing)

    def test_which_tuples_are_sevens(self):
        rng = random.Random(51)
        shapes = {even_sevens(k) for k in range(-3, 4)} | {saw_sevens(w, m) for w in range(7) for m in range(-12, 5)}
        for _ in range(4000):
            sevens = list(rng.choice(sorted(shapes)))
            sevens[rng.randrange(7)] += rng.choice([0, 1, -1, 7, -7])
            if tuple(sevens) in shapes:
                shape_of_sevens(tuple(sevens))
            elif min(sevens) > -4 and max(sevens) < 4:
                self.refused(BadSevens(), shape_of_sevens, tuple(sevens))


class HopsTest(Case):
    def test_hops_counted_day_by_day_at_all_seven_rests(self):
        rng = random.Random(52)
        for _ in range(300):
            hops = [random_hop(rng) for _ in range(rng.randint(0, 6))]
            sevens = tuple(walked(hops, rest) for rest in range(7))
            self.assertEqual(led_by(hops), sevens)
            self.assertEqual(led_by(tuple(hops)), sevens)
            hop = random_hop(rng)
            self.assertEqual(lead_sevens(sevens, hop), led_by(hops + [hop]))

    def test_single_hops(self):
        self.assertEqual(led_by(()), even_sevens(0))
        self.assertEqual(led_by([]), even_sevens(0))
        for k in range(-30, 31):
            self.assertEqual(led_by([("plus", k)]), even_sevens(k))
            for w in range(7):
                self.assertEqual(lead_sevens(even_sevens(k), ("coming", w)), saw_sevens(w, k))
                self.assertEqual(lead_sevens(even_sevens(k), ("last", w)), saw_sevens(w, k - 8))

    def test_any_hop_moves_a_saw_by_as_many_days_at_all_rests(self):
        for w, m in product(range(7), range(-9, 9)):
            for hop in [("plus", 5), ("plus", -30)] + [(head, v) for head in ("coming", "last") for v in range(7)]:
                sevens = saw_sevens(w, m)
                moved = lead_sevens(sevens, hop)
                self.assertEqual(len({new - old for new, old in zip(moved, sevens)}), 1)
                self.assertEqual(shape_of_sevens(moved)[0], "saw")

    def test_the_first_bad_hop(self):
        for thing in NO_HOPS:
            self.refused(BadHop(0), lead_sevens, even_sevens(0), thing)
            self.refused(BadHop(0), lead_sevens, saw_sevens(1, 1), thing)
            self.refused(BadHop(0), led_by, [thing])
            self.refused(BadHop(2), led_by, [("plus", 1), ("last", 2), thing, None])
            self.refused(BadHop(1), led_by, (("coming", 1), thing))
        for hops in (None, 3, "hops", {("plus", 1): 0}, {("plus", 1)}, iter([("plus", 1)]), range(1), object()):
            self.refused(BadHop(0), led_by, hops)


class RestsTest(Case):
    def test_rests_alike(self):
        evens = [even_sevens(k) for k in range(-9, 12)]
        saws = [saw_sevens(w, m) for w in range(7) for m in range(-9, 9)]
        for one, other in product(evens + saws[::3], evens + saws):
            told = tuple(rest for rest in range(7) if one[rest] == other[rest])
            self.assertEqual(rests_alike(one, other), told)
            self.assertEqual(rests_alike(other, one), told)
        for (w, m), (v, n) in product(product(range(7), range(-9, 9)), product(range(7), (0, 3))):
            many = len(rests_alike(saw_sevens(w, m), saw_sevens(v, n)))
            if (w, m) == (v, n):
                self.assertEqual(many, 7)
            elif w == v:
                self.assertEqual(many, max(0, 7 - abs(m - n)))
            else:
                self.assertEqual(many, 0)
        for k, m, w in product(range(-12, 12), range(-5, 5), range(7)):
            many = len(rests_alike(even_sevens(k), saw_sevens(w, m)))
            self.assertEqual(many, 1 if m < k <= m + 7 else 0)


class LeastHopsTest(Case):
    def shortest(self, sevens, many):
        """Check a row of hops: it has the told length and leads there."""
        hops = least_hops(sevens)
        self.assertIsInstance(hops, tuple)
        self.assertEqual(led_by(hops), sevens)
        self.assertEqual(len(hops), many)

    def test_even(self):
        for k in list(range(-130, 131)) + list(range(-2900, 2901, 29)) + [2900, -2900, 2880, -2880]:
            self.shortest(even_sevens(k), up(k))
        self.assertEqual(least_hops(even_sevens(0)), ())

    def test_saws(self):
        for w in range(7):
            for m in list(range(-130, 131)) + list(range(-2900, 2901, 29)) + [2900, -2900, -2888, -2908, 2892]:
                self.shortest(saw_sevens(w, m), 1 + min(up(m), up(m + 8)))

    def test_no_shorter_row_leads_there(self):
        # All sevens that one and two hops reach; what is reached by one more plus is told by them.
        hops = [("plus", k) for k in range(-30, 31)] + [(head, w) for head in ("coming", "last") for w in range(7)]
        reached = {even_sevens(0): 0}
        edge = [even_sevens(0)]
        for length in (1, 2):
            found = []
            for sevens in edge:
                for hop in hops:
                    led = lead_sevens(sevens, hop)
                    if led not in reached:
                        reached[led] = length
                        found.append(led)
            edge = found
        for sevens, length in reached.items():
            self.assertEqual(len(least_hops(sevens)), length)

    def test_no_wholes_are_no_offsets(self):
        for thing in NO_WHOLES:
            self.refused(BadSevens(), least_hops, (thing,) * 7)


if __name__ == "__main__":
    unittest.main()
