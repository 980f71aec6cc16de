"""[10.14], [10.15]: wishes, held and missed."""

import unittest

from tests.helper import NO_WHOLES, SHIFT, STAY, TONGUES
from tests.letterkit import LetterCase, heard_in, small_letters
from tests.promisekit import told_promise
from tests.talkkit import heard_at
from whosetomorrow.errors import BadWish
from whosetomorrow.facts import Facts, first_untrue
from whosetomorrow.found import FoundLetter, Reading, Sure, a_reading
from whosetomorrow.foundrange import sure_meaning
from whosetomorrow.promises import promise_case
from whosetomorrow.safety import is_safe
from whosetomorrow.sevens import even_sevens, saw_sevens
from whosetomorrow.situations import Situation
from whosetomorrow.sure import sure_form
from whosetomorrow.forms import form_of
from whosetomorrow.talks import Plain
from whosetomorrow.talktext import read_talk
from whosetomorrow.talkways import row_at, unknown_parts, with_word, words_of
from whosetomorrow.terms import value_of
from whosetomorrow.wishes import Miss, find_miss, miss_fault
from whosetomorrow.words import find_kind

D = ("D",)
TODAY = ("sevens", D, even_sevens(0))
TEXT = "come I today+1 here; /@cy you someday here (go self that I today)"
HERE = Situation("ann", "bob", 10, "rome")
ROWS = (("cy", "bob", 4, "rome"),) * 12
SAFE = ("safe",)


def letter(text=TEXT, rows=(), tongues=(STAY, SHIFT)):
    """Return the letter of a text."""
    return FoundLetter(read_talk(text), tongues, Facts(rows))


class WishCase(LetterCase):
    def check_miss(self, found, wishes, miss):
        """Check that a miss shows that its wish does not hold."""
        self.assertIsInstance(miss, Miss)
        wish = wishes[miss.wish]
        self.assertIsInstance(miss.readings, tuple)
        self.assertEqual(len(miss.readings), 2 if wish[0] in ("safe", "sure") else 1)
        for reading in miss.readings:
            self.check_reading(found, reading)
        one, other = miss.readings[0], miss.readings[-1]
        if wish[0] == "safe":
            self.assertEqual((one.situation, one.value_rows), (other.situation, other.value_rows))
        self.assertTrue(self.shows(found, wish, one, other))
        self.assertIsNone(miss_fault(found, wishes, miss))

    def shows(self, found, wish, one, other):
        """Tell whether one or two readings show that a wish does not hold."""
        if wish[0] == "safe":
            return heard_in(found.talk, one) != heard_in(found.talk, other)
        if wish[0] == "same as":
            return heard_in(found.talk, one) != heard_in(wish[1], one)
        if wish[0] == "promise":
            return told_promise(found.talk, tuple(wish[1]), one) is None
        meaning = heard_at(heard_in(found.talk, one), wish[1], wish[2])
        if wish[0] == "means":
            return meaning != value_of(wish[3], one.situation, one.value_rows)
        return meaning != heard_at(heard_in(found.talk, other), wish[1], wish[2])


class FindMissTest(WishCase):
    def check(self, found, wish, holds):
        miss = find_miss(found, [wish])
        self.assertEqual(miss is None, holds, wish)
        if miss is not None:
            self.assertEqual(miss.wish, 0)
            self.check_miss(found, [wish], miss)

    def test_what_is_given_is_kept(self):
        readings = [1]
        self.assertIs(Miss(0, readings).readings, readings)
        reading = a_reading(letter())
        self.equal_only((Miss(0, (reading,)), Miss(0, (Reading(reading.tongue, reading.situation, reading.value_rows),))), [
            Miss(1, (reading,)), Miss(0, ()), Miss(0, (reading, reading)), (0, (reading,))])

    def test_means(self):
        found = letter()
        self.check(found, ("means", (0,), 0, ("T",)), True)
        self.check(found, ["means", [0], 0, ("H",)], False)
        self.check(found, ("means", (0,), 1, ("sevens", D, even_sevens(1))), True)
        self.check(found, ("means", (0,), 1, TODAY), False)
        self.check(found, ("means", (0,), 2, ("Z",)), True)
        self.check(found, ("means", (1, 0), 0, ("name", "cy")), True)
        self.check(found, ("means", (1, 0), 2, ("T",)), False)
        self.check(found, ("means", (1, 0), 3, TODAY), False)
        self.check(found, ("means", (1,), 2, TODAY), False)
        self.check(letter(tongues=[STAY]), ("means", (1, 0), 2, ("T",)), True)
        self.check(letter(rows=[("same", ("T",), ("name", "cy"))]), ("means", (1, 0), 2, ("T",)), True)
        self.check(letter(rows=[("same", ("T",), ("name", "cy"))]), ("means", (0,), 0, ("name", "cy")), True)
        self.check(letter("come coming3"), ("means", (0,), 0, ("sevens", D, saw_sevens(3, 0))), True)

    def test_safe(self):
        self.check(letter(), SAFE, False)
        self.check(letter(tongues=[STAY]), ["safe"], True)
        self.check(letter("come I; /@cy I today here (go self that there)", (), TONGUES), SAFE, True)
        self.check(letter(rows=[("same", ("T",), ("name", "cy")), ("between", D, ("day", 0), 0, 0)]), SAFE, True)
        # Only the last of three tongues is unlike.
        self.check(letter("/@cy I today here (go I)", (), [STAY, TONGUES[1], SHIFT]), SAFE, False)
        self.check(letter("/@cy I today here (go I)", (), [STAY, TONGUES[1]]), SAFE, True)

    def test_same_as(self):
        found = letter("come I today+1 here; go @ann")
        self.check(found, ("same as", read_talk("come I today+1 here; go @ann")), True)
        self.check(found, ("same as", read_talk("come I today+1 here; go I")), False)
        self.check(found, ["same as", read_talk("come I today+1 here")], False)
        self.check(found, ("same as", read_talk("come I today+1 here; stay @ann")), False)
        named = letter("come I today+1 here; go @ann", [("same", ("T",), ("name", "ann"))])
        self.check(named, ("same as", read_talk("come @ann today+1 here; go I")), True)
        told = letter("/@cy I today here (go I)")
        self.check(told, ("same as", read_talk("/@cy I today here [go I]")), False)
        self.check(told, ("same as", read_talk("/@cy I today here (go @cy)")), False)
        self.check(letter("/@cy I today here (go I)", (), [SHIFT]), ("same as", read_talk("/@cy I today here (go @cy)")), True)
        manner = letter("/@cy I today here (go @cy)")
        self.check(manner, ("same as", read_talk("/@cy I today here [go @cy]")), False)
        self.check(manner, ("same as", read_talk("/@cy I today here (go @cy)")), True)
        self.check(letter(), ("same as", read_talk("come I today+1 here; /@cy you =3 here (go self that I today)")), False)

    def test_sure(self):
        found = letter(rows=[("same", ("T",), ("name", "ann")), ("between", D, ("date", 4), 1, 1)])
        self.check(found, ("sure", (0,), 0), True)
        self.check(found, ("sure", [0], 1), True)
        self.check(found, ["sure", (0,), 2], False)
        self.check(found, ("sure", (1, 0), 2), False)
        self.check(found, ("sure", (1,), 2), False)
        self.check(found, ("sure", (1, 0), 0), True)

    def test_promise(self):
        found = letter("come I today; come you today; come I today-1; /@cy I today-1 here (go I today)")
        for path, holds in [((0,), True), ([1], False), ((2,), False), ((3, 0), False)]:
            self.check(found, ("promise", path), holds)
        self.check(letter("/@cy I today-1 here (go I today)", (), [SHIFT]), ("promise", (0, 0)), True)

    def test_any_wish_that_does_not_hold(self):
        found = letter()
        wishes = (("means", (0,), 0, ("T",)), ("sure", (0,), 0), ("promise", (0,)), SAFE)
        miss = find_miss(found, wishes)
        self.assertIn(miss.wish, (1, 3))
        self.check_miss(found, wishes, miss)
        self.assertIsNone(find_miss(found, [wishes[0], wishes[2], wishes[0], wishes[2]]))

    def test_against_all_readings(self):
        counts = {}
        for rng, found, readings in small_letters(26, 191):
            for path, index, word in words_of(found.talk):
                kind = find_kind(word)
                term = rng.choice({
                    "person": [("T",), ("H",), ("name", "ann")], "place": [("Z",), ("place", "rome")],
                    "day": [TODAY, ("sevens", D, even_sevens(1)), ("sevens", D, saw_sevens(3, 0)), ("date", 1)]}[kind])
                if term[0] == "sevens":
                    told = [meanings[path, index] == ("date", roots[D] + term[2][roots[D] % 7])
                            for _, roots, meanings in readings.told[kind]]
                else:
                    told = [meanings[path, index] == (term if len(term) > 1 else (meanings[path, index][0], roots[term]))
                            for _, roots, meanings in readings.told[kind]]
                self.counted(counts, found, ("means", path, index, term), all(told))
                self.counted(counts, found, ("sure", path, index), sure_meaning(found, path, index) is not None)
                if kind == "person" and isinstance(row_at(found.talk, path), Plain):
                    self.counted(counts, found, ("promise", path), promise_case(found, path) == Sure())
            forms = [form_of(found.talk, tongue) for tongue in found.tongues]
            safe = all(sure_form(found.facts, forms[0], form) is None for form in forms)
            self.counted(counts, found, SAFE, safe)
            self.assertTrue(safe or not is_safe(found.talk, found.tongues))
            if unknown_parts(found.talk):
                continue
            places = list(words_of(found.talk))
            if places:
                path, index, word = rng.choice(places)
                new = {"person": ("I",), "day": ("today", 0), "place": ("here",)}[find_kind(word)]
                other = with_word(found.talk, path, index, new)
                same = all(
                    sure_form(found.facts, form_of(found.talk, tongue), form_of(other, tongue)) is None
                    for tongue in found.tongues)
                self.counted(counts, found, ("same as", other), same)
        for head in ("means", "sure", "promise", "safe"):
            self.assertTrue(min(counts[head]) > 0, counts)
        self.assertTrue(sum(counts["same as"]) > 3, counts)

    def counted(self, counts, found, wish, holds):
        """Check one wish and count it."""
        self.check(found, wish, holds)
        counts.setdefault(wish[0], [0, 0])[holds] += 1


class BadWishTest(WishCase):
    def refuse(self, what, wish):
        for function, more in ((find_miss, ()), (miss_fault, (Miss(0, ()),))):
            self.refused(BadWish(1, what), function, letter(), [SAFE, wish, None], *more)
            self.refused(BadWish(0, what), function, letter(), (wish, SAFE), *more)

    def test_what_is_no_sequence(self):
        for no in (None, "safe", {}, 3, (), [], [SAFE] * 5, {SAFE}):
            self.refused(BadWish(0, "sequence"), find_miss, letter(), no)
            self.refused(BadWish(0, "sequence"), miss_fault, letter(), no, Miss(0, ()))
        self.assertIsNone(find_miss(letter(tongues=[STAY]), [SAFE] * 4))

    def test_what_is_no_wish(self):
        for no in (None, "safe", {}, 3, (), [], ("safe", 1), ("Safe",), ("means", (0,), 0), ("means", (0,), 0, ("T",), 1),
                   ("same as",), ("same as", read_talk("go"), 1), ("sure", (0,)), ("sure", (0,), 0, 0), ("promise",),
                   ("promise", (0,), 0), (None,), (SAFE,), (["safe"],), ("sure",)):
            self.refuse("wish", no)

    def test_the_path(self):
        for path in (None, (), (2,), (-1,), (True,), "0", (0, 0), (1, 1), 0):
            self.refuse("path", ("means", path, 9, None))
            self.refuse("path", ["sure", path, 9])
            self.refuse("path", ("promise", path))
        self.refuse("path", ("promise", (1,)))

    def test_the_index(self):
        for path, count in [((0,), 3), ([1], 4), ((1, 0), 4)]:
            for index in NO_WHOLES + [count, -1]:
                self.refuse("index", ("means", path, index, None))
                self.refuse("index", ("sure", path, index))

    def test_the_term(self):
        wrong = [None, ("I",), ("T", 1), ["T"], ("Z",), TODAY, ("date", 3), ("who", 0), ("whom", 3), ("who", 12), ("name", "Ann"), D]
        for no in wrong:
            self.refuse("term", ("means", (0,), 0, no))
        for no in [None, ("T",), ("today", 1), D, ("day", 0), ("sevens", ("day", 0), even_sevens(0)), ("sevens", D, (0, 1)),
                   ("date", True), ("sevens", ["D"], even_sevens(0))]:
            self.refuse("term", ("means", (0,), 1, no))
            self.refuse("term", ("means", (1,), 2, no))
        for no in [None, ("T",), ("here",), ("where", 0), ("name", "rome"), ("place", 3)]:
            self.refuse("term", ("means", (0,), 2, no))

    def test_the_talk(self):
        for no in (None, "go", (), read_talk("go").rows, letter(), read_talk("go; /somebody you today here [go]"),
                   read_talk("/@a you today here [/@a you someday here (go)]")):
            self.refuse("talk", ("same as", no))


class MissFaultTest(WishCase):
    def setUp(self):
        self.found = letter("come I today+1; /@cy I someday here (go I today)", [("unlike", ("T",), ("name", "cy"))])
        self.wishes = [("means", (1, 0), 0, ("T",)), SAFE, ("same as", read_talk("go")), ("sure", (0,), 0), ("promise", (1, 0))]
        self.stay = Reading(STAY, HERE, ROWS)
        self.shift = Reading(SHIFT, HERE, ROWS)

    def fault(self, at, *readings):
        return miss_fault(self.found, [self.wishes[at]], Miss(0, readings))

    def test_the_wish(self):
        for no in NO_WHOLES + [-1, 4, 10 ** 30]:
            self.assertEqual(miss_fault(self.found, self.wishes[:4], Miss(no, None)), "wish")
        self.assertIsNone(miss_fault(self.found, self.wishes[:4], Miss(2, (self.stay,))))

    def test_the_readings(self):
        other = Reading(SHIFT, HERE.moved(1), ROWS)
        more = Reading(SHIFT, HERE, ROWS + ROWS)
        cy = Reading(STAY, Situation("cy", "bob", 10, "rome"), ROWS)
        far = Reading(TONGUES[3], HERE, ROWS)
        lacking = Reading(STAY, HERE, ())
        for at, count in [(0, 1), (1, 2), (2, 1), (3, 2), (4, 1)]:
            for readings in [(), (self.stay,) * (3 - count), (self.stay,) * 3, (cy,) * count, (far,) * count,
                             (lacking,) * count, (self.stay,) * (count - 1) + (cy,), (None,) * count, (HERE,) * count]:
                self.assertEqual(self.fault(at, *readings), "readings")
            for no in (None, [self.stay] * count, self.stay, "ab"):
                self.assertEqual(miss_fault(self.found, [self.wishes[at]], Miss(0, no)), "readings")
        self.assertEqual(self.fault(1, self.stay, other), "readings")
        self.assertEqual(self.fault(1, self.stay, more), "readings")
        self.assertIsNone(self.fault(1, self.stay, self.shift))

    def test_what_they_show(self):
        self.assertEqual(self.fault(0, self.stay), "holds")
        self.assertIsNone(self.fault(0, self.shift))
        self.assertEqual(self.fault(1, self.stay, self.stay), "holds")
        self.assertEqual(self.fault(3, self.stay, self.shift), "holds")
        self.assertIsNone(self.fault(3, self.stay, Reading(SHIFT, Situation("eve", "bob", 10, "rome"), ROWS)))
        self.assertIsNone(self.fault(4, self.stay))
        self.assertEqual(self.fault(4, self.shift), "holds")
        same = [("same as", self.found.talk)]
        named = letter("come I; come @ann")
        other = [("same as", read_talk("come @ann; come I"))]
        self.assertEqual(miss_fault(named, other, Miss(0, (self.stay,))), "holds")
        self.assertIsNone(miss_fault(named, other, Miss(0, (Reading(STAY, Situation("eve", "bob", 0, "rome"), ()),))))
        self.refused(BadWish(0, "talk"), miss_fault, self.found, same, Miss(0, ()))

    def test_random_readings(self):
        counts = {}
        for rng, found, readings in small_letters(20, 192, most=1):
            for path, index, word in words_of(found.talk):
                wish = rng.choice([("sure", path, index), SAFE, ("means", path, index, {
                    "person": ("T",), "day": TODAY, "place": ("Z",)}[find_kind(word)])])
                one = a_reading(found)
                other = rng.choice([
                    Reading(rng.choice(TONGUES), one.situation, one.value_rows), Reading(rng.choice(found.tongues), HERE, ROWS)])
                told = (one, other) if wish[0] != "means" else (other,)
                fault = miss_fault(found, [wish], Miss(0, told))
                fits = all(reading.tongue in found.tongues and self.is_fit(found, reading) for reading in told)
                if wish[0] == "safe" and (one.situation != other.situation or one.value_rows != other.value_rows):
                    fits = False
                expected = "readings" if not fits else None if self.shows(found, wish, told[0], told[-1]) else "holds"
                self.assertEqual(fault, expected)
                counts[fault] = counts.get(fault, 0) + 1
        self.assertTrue(min(counts[what] for what in (None, "readings", "holds")) > 5, counts)

    def is_fit(self, found, reading):
        """Tell whether a reading is a fit of the facts."""
        return first_untrue(found.facts, reading.situation, reading.value_rows) is None


if __name__ == "__main__":
    unittest.main()
