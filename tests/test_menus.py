"""[6.1]: menus."""

import random
import unittest

from tests.helper import ALL_WORDS, NO_NAMES, NO_WHOLES, NO_WORDS, UNKNOWN_WORDS, Case, come, random_talk, report
from whosetomorrow.errors import BadKind, BadMenu, BadWord, NotInMenu
from whosetomorrow.menus import Menu, menu_of
from whosetomorrow.talks import Report, Talk
from whosetomorrow.talkways import words_of
from whosetomorrow.words import is_unknown, kind_of

SIX = ["ann", "bob", "cy", "dot", "eve", "fay"]
COUNTED = [0]
for number in range(1, 31):
    COUNTED += [number, -number]
DAYS = [("today", k) for k in COUNTED] + [("that day", k) for k in COUNTED] + [
    (head, w) for head in ("coming", "last", "then coming", "then last") for w in range(7)]


class MenuTest(Case):
    def test_words_in_their_order(self):
        menu = Menu(["bob", "ann"], ("rome", "bob"), [5, -3, 10 ** 40])
        persons = [("I",), ("you",), ("self",), ("told",), ("name", "bob"), ("name", "ann")]
        days = DAYS + [("date", 5), ("date", -3), ("date", 10 ** 40)]
        spots = [("here",), ("there",), ("place", "rome"), ("place", "bob")]
        for kind, words in (("person", persons), ("day", days), ("place", spots)):
            self.assertEqual(menu.words_for(kind), tuple(words))
            for at, word in enumerate(words):
                self.assertEqual(menu.position_of(word), at)
        self.assertEqual(menu.rows, tuple(persons + days + spots))
        self.assertEqual(list(menu), persons + days + spots)
        self.assertEqual(len(menu), len(persons + days + spots))
        self.assertEqual((menu.names, menu.places, menu.dates), (("bob", "ann"), ("rome", "bob"), (5, -3, 10 ** 40)))

    def test_what_is_left_out(self):
        for menu in (Menu(), Menu((), (), ()), Menu([], [], [])):
            self.assertEqual((menu.names, menu.places, menu.dates), ((), (), ()))
            self.assertEqual(menu.words_for("person"), (("I",), ("you",), ("self",), ("told",)))
            self.assertEqual(menu.words_for("day"), tuple(DAYS))
            self.assertEqual(menu.words_for("place"), (("here",), ("there",)))
        self.assertEqual(len(Menu()), 4 + 122 + 28 + 2)
        self.assertEqual(Menu(dates=[3]).dates, (3,))
        self.assertEqual(Menu(places=["ann"]).names, ())
        self.assertEqual(Menu(dates=range(0) or [], names=["ann"]).names, ("ann",))

    def test_as_many_as_may_be(self):
        menu = Menu(SIX, SIX, list(range(12)))
        self.assertEqual(len(menu), 156 + 24)

    def test_bad_names_and_places(self):
        for what, single, call in (("names", "name", lambda row: Menu(row)), ("places", "place", lambda row: Menu((), row))):
            for thing in (None, True, "ann", 3, {"ann": 1}, {"ann"}, iter(["ann"]), SIX + ["gil"], [None] * 7):
                self.refused(BadMenu(0, what), call, thing)
            for bad in NO_NAMES:
                self.refused(BadMenu(0, single), call, [bad])
                self.refused(BadMenu(2, single), call, ("ann", "bob", bad, "ann"))
                self.refused(BadMenu(5, single), call, SIX[:5] + [bad])
            self.refused(BadMenu(1, "same " + single), call, ["ann", "ann", "Bad"])
            self.refused(BadMenu(3, "same " + single), call, ["ann", "bob", "cy", "bob", "ann"])
            self.refused(BadMenu(1, single), call, ["ann", "Bad", "ann"])

    def test_bad_dates(self):
        for thing in (None, True, "1", 3, {1: 1}, {1}, range(3), list(range(13))):
            self.refused(BadMenu(0, "dates"), Menu, (), (), thing)
        for bad in NO_WHOLES:
            self.refused(BadMenu(1, "date"), Menu, (), (), [0, bad, 0])
        # True is equal to 1 and is no whole number all the same.
        self.refused(BadMenu(1, "date"), Menu, (), (), [1, True])
        self.refused(BadMenu(0, "date"), Menu, (), (), [False, 0])
        self.refused(BadMenu(2, "same date"), Menu, (), (), [1, 2, 1, None])

    def test_names_then_places_then_dates(self):
        self.refused(BadMenu(0, "names"), Menu, None, None, None)
        self.refused(BadMenu(1, "same name"), Menu, ["ann", "ann"], None, None)
        self.refused(BadMenu(0, "places"), Menu, ["ann"], None, None)
        self.refused(BadMenu(0, "place"), Menu, ["ann"], [None], None)
        self.refused(BadMenu(0, "dates"), Menu, ["ann"], ["ann"], None)

    def test_bad_kind(self):
        for kind in (None, True, "", "Person", "persons", ("person",), ["day"], {}, "name"):
            with self.assertRaises(BadKind) as caught:
                Menu().words_for(kind)
            self.assertIs(caught.exception.kind, kind)

    def test_position_of(self):
        menu = Menu(["ann"], ["rome"], [3])
        for thing in NO_WORDS + UNKNOWN_WORDS:
            self.refused(BadWord(), menu.position_of, thing)
        for word in (("name", "bob"), ("name", "rome"), ("place", "ann"), ("date", 4), ("date", 0)):
            self.refused(NotInMenu(word), menu.position_of, word)
        for word in ALL_WORDS:
            if word[0] not in ("name", "place", "date") and not is_unknown(word):
                self.assertEqual(menu.words_for(kind_of(word))[menu.position_of(word)], word)

    def test_later_changes_change_nothing(self):
        names, dates = ["ann"], [3]
        menu = Menu(names, (), dates)
        names.append("bob")
        dates[0] = 4
        self.assertEqual((menu.names, menu.dates, len(menu)), (("ann",), (3,), 158))

    def test_equal_by_rows(self):
        self.equal_only((Menu(["ann"], ["rome"], [3]), Menu(("ann",), ("rome",), (3,))), [
            Menu(["ann"], ["rome"]), Menu(["bob"], ["rome"], [3]), Menu(["ann"], ["oslo"], [3]), Menu(["ann"], ["rome"], [4]),
            Menu(["ann"], ["rome"], [3]).rows])
        self.assertNotEqual(Menu(["ann", "bob"]), Menu(["bob", "ann"]))


class MenuOfTest(Case):
    def test_in_the_order_of_reading(self):
        talk = Talk([
            come(("name", "cy"), ("date", 3), ("place", "rome")),
            Report(("name", "bob"), ("name", "cy"), ("date", -1), ("somewhere",), "indirect", [
                come(("name", "ann"), ("date", 3), ("place", "ann"), ("place", "rome"))]),
            come(("date", 0), ("I",), ("today", 7), ("name", "dot"))])
        menu = menu_of(talk)
        self.assertIsInstance(menu, Menu)
        self.assertEqual(menu, Menu(["cy", "bob", "ann", "dot"], ["rome", "ann"], [3, -1, 0]))
        self.assertEqual(menu_of(Talk([come()])), Menu())

    def test_those_behind_the_first_are_left_out(self):
        names = SIX + ["gil", "hal"]
        rows = [come(("name", names[at]), ("name", names[at + 4]), ("place", names[at]), ("place", names[at + 4]))
                for at in range(4)]
        menu = menu_of(Talk(rows))
        order = [name for at in range(4) for name in (names[at], names[at + 4])]
        self.assertEqual(menu.names, tuple(order[:6]))
        self.assertEqual(menu.places, tuple(order[:6]))
        dates = [come(*[("date", 4 * row + at) for at in range(4)]) for row in range(4)]
        self.assertEqual(menu_of(Talk(dates)).dates, tuple(range(12)))
        self.assertEqual(menu_of(Talk(dates + [come(("date", 0))])).dates, tuple(range(12)))

    def test_random_talks(self):
        rng = random.Random(911)
        for _ in range(60):
            talk = random_talk(rng, 3)
            menu = menu_of(talk)
            for head, told, most in (("name", menu.names, 6), ("place", menu.places, 6), ("date", menu.dates, 12)):
                found = [word[1] for _, _, word in words_of(talk) if word[0] == head]
                self.assertEqual(told, tuple(dict.fromkeys(found))[:most])
        self.assertEqual(menu_of(Talk([report("own", come())])), Menu(["cy", "dot"], ["rome"], [3]))


if __name__ == "__main__":
    unittest.main()
