"""[0.4], [1.2], [1.3]: tongues and situations."""

import unittest

from tests.helper import NO_NAMES, NO_WHOLES, TONGUES, Case
from whosetomorrow.errors import BadSituation, BadTongue
from whosetomorrow.situations import Situation, Tongue, all_tongues, exchange_name


class TongueTest(Case):
    def test_attributes(self):
        tongue = Tongue(True, False, False, True)
        self.assertEqual(tongue.shifts, (True, False, False, True))
        self.assertIs(tongue.shifts_person, True)
        self.assertIs(tongue.shifts_you, False)
        self.assertIs(tongue.shifts_today, False)
        self.assertIs(tongue.shifts_here, True)
        other = Tongue(False, True, True, False)
        self.assertEqual(
            (other.shifts_person, other.shifts_you, other.shifts_today, other.shifts_here),
            (False, True, True, False))

    def test_arguments_by_name(self):
        self.assertEqual(Tongue(here=True, today=False, you=False, person=True).shifts, (True, False, False, True))

    def test_no_truths(self):
        for at in range(4):
            for thing in (1, 0, None, "True", [True], (), 1.0, object()):
                truths = [True, False, True, False]
                truths[at] = thing
                self.refused(BadTongue(), Tongue, *truths)

    def test_all_sixteen_in_order(self):
        rows = [tongue.shifts for tongue in all_tongues()]
        self.assertIsInstance(all_tongues(), tuple)
        told = [tuple(bool(number & bit) for bit in (8, 4, 2, 1)) for number in range(16)]
        self.assertEqual(rows, told)
        self.assertEqual(rows, sorted(set(rows)))

    def test_equal_by_shifts(self):
        for tongue in TONGUES:
            others = [other for other in TONGUES if other.shifts != tongue.shifts]
            self.assertEqual(len(others), 15)
            self.equal_only((tongue, Tongue(*tongue.shifts)), others + [tongue.shifts])


class SituationTest(Case):
    def test_attributes(self):
        situation = Situation("ann", "bob", -5, "rome")
        self.assertEqual(
            (situation.teller, situation.hearer, situation.day, situation.place), ("ann", "bob", -5, "rome"))
        self.assertEqual(Situation(place="rome", day=-5, hearer="bob", teller="ann"), situation)

    def test_the_teller_may_be_the_hearer_and_days_may_be_far(self):
        for day in (0, -1, 10 ** 39, -10 ** 39):
            situation = Situation("ann", "ann", day, "ann")
            self.assertEqual((situation.hearer, situation.day), ("ann", day))

    def test_each_word_of_its_error(self):
        for name in NO_NAMES:
            self.refused(BadSituation("teller"), Situation, name, "bob", 0, "rome")
            self.refused(BadSituation("hearer"), Situation, "ann", name, 0, "rome")
            self.refused(BadSituation("place"), Situation, "ann", "bob", 0, name)
        for day in NO_WHOLES:
            self.refused(BadSituation("day"), Situation, "ann", "bob", day, "rome")

    def test_the_first_wrong_argument_is_told(self):
        wrong = [None, 3, "today", ["rome"]]
        right = ["ann", "bob", 0, "rome"]
        for at, what in enumerate(("teller", "hearer", "day", "place")):
            self.refused(BadSituation(what), Situation, *(right[:at] + wrong[at:]))

    def test_moved(self):
        situation = Situation("ann", "bob", 3, "rome")
        for days in (0, 1, -10, 10 ** 39):
            moved = situation.moved(days)
            self.assertEqual(moved, Situation("ann", "bob", 3 + days, "rome"))
            self.assertEqual(moved.moved(-days), situation)
        self.assertEqual(situation.day, 3)
        self.assertIsNot(situation.moved(0), situation)
        for days in NO_WHOLES:
            self.refused(BadSituation("day"), situation.moved, days)

    def test_exchange_name(self):
        self.assertEqual(exchange_name("ann", "ann", "bob"), "bob")
        self.assertEqual(exchange_name("bob", "ann", "bob"), "ann")
        self.assertEqual(exchange_name("cy", "ann", "bob"), "cy")
        self.assertEqual(exchange_name("ann", "ann", "ann"), "ann")
        self.assertEqual(exchange_name("cy", "ann", "ann"), "cy")
        for name in NO_NAMES:
            self.refused(BadSituation("name"), exchange_name, "cy", name, "bob")
            self.refused(BadSituation("name"), exchange_name, "cy", "ann", name)
            self.refused(BadSituation("name"), exchange_name, "cy", name, name)

    def test_exchanged_there_and_back(self):
        situation = Situation("ann", "bob", 3, "ann")
        self.assertEqual(situation.exchanged("ann", "bob"), Situation("bob", "ann", 3, "ann"))
        self.assertEqual(situation.exchanged("bob", "ann"), Situation("bob", "ann", 3, "ann"))
        self.assertEqual(situation.exchanged("ann", "cy"), Situation("cy", "bob", 3, "ann"))
        self.assertEqual(situation.exchanged("eve", "cy"), situation)
        self.assertEqual(situation.exchanged("ann", "cy").exchanged("ann", "cy"), situation)
        for name in NO_NAMES:
            self.refused(BadSituation("name"), situation.exchanged, name, "bob")
            self.refused(BadSituation("name"), situation.exchanged, "eve", name)

    def test_equal_by_all_four(self):
        same = (Situation("ann", "bob", 3, "rome"), Situation("ann", "bob", 3, "rome"))
        self.equal_only(same, [
            Situation("eve", "bob", 3, "rome"), Situation("ann", "eve", 3, "rome"),
            Situation("ann", "bob", 4, "rome"), Situation("ann", "bob", 3, "oslo"),
            TONGUES[0], ("ann", "bob", 3, "rome"),
        ])


if __name__ == "__main__":
    unittest.main()
