"""[10.11] to [10.13]: changes of found letters."""

import itertools
import random
import unittest

from tests.helper import NO_WHOLES, NO_WORDS, SHIFT, STAY, TONGUES
from tests.letterkit import NONE, LetterCase, random_changes, small_letter
from whosetomorrow.changes import apply_changes
from whosetomorrow.errors import BadChange, NoLetter
from whosetomorrow.facts import Facts
from whosetomorrow.found import FoundLetter
from whosetomorrow.situations import Tongue
from whosetomorrow.talks import Talk
from whosetomorrow.talktext import read_talk
from whosetomorrow.talkways import words_of
from whosetomorrow.words import find_kind

D = ("D",)
TEXT = "come I today+1 here; /somebody you someday somewhere (go self that+2 @bob =3); /@cy I last3 here [stay I #oslo]"
SAME = ("same", ("T",), ("name", "ann"))


def letter(text=TEXT, rows=(), tongues=TONGUES):
    """Return the letter of a text."""
    return FoundLetter(read_talk(text), tongues, Facts(rows))


class ApplyTest(LetterCase):
    def changed(self, text, changes, new, tongues=TONGUES):
        found = letter(text, (), tongues)
        self.assertEqual(apply_changes(found, changes).talk, read_talk(new))

    def test_no_changes(self):
        found = letter()
        for changes in ([], ()):
            new = apply_changes(found, changes)
            self.assertEqual(new, found)
            self.assertIsNot(new, found)

    def test_words(self):
        self.changed("come I today here", [("word", (0,), 0, ("you",)), ["word", [0], 1, ("coming", 3)]], "come you coming3 here")
        self.changed("/I you today here (go self)", [("word", (0,), 0, ("somebody",)), ("word", (0, 0), 0, ("told",))],
                     "/somebody you today here (go told)")
        self.changed("/somebody you someday somewhere (go)", [
            ("word", (0,), 0, ("I",)), ("word", (0,), 2, ("date", 3)), ("word", (0,), 3, ("here",))], "/I you =3 here (go)")

    def test_amounts(self):
        self.changed("come today+1 =5", [("add", (0,), 0, 29), ("add", (0,), 1, -30)], "come today+30 =-25")
        self.changed("/@a @b =3 here (go that today-3)", [("add", (0,), 2, 1), ("add", (0, 0), 0, -30), ["add", [0, 0], 1, 3]],
                     "/@a @b =4 here (go that-30 today)")
        # To the word put, not to the one that stood there.
        self.changed("come today+30", [("add", (0,), 0, 20), ("word", (0,), 0, ("today", -30))], "come today-10")
        self.changed("come today+30", [("word", (0,), 0, ("date", 500)), ("add", (0,), 0, 20)], "come =520")

    def test_manners(self):
        self.changed("/I you today here (go you)", [("manner", (0,))], "/I you today here [go you]")
        self.changed("/I you today here [/I I today here [go]]", [["manner", [0, 0]]], "/I you today here [/I I today here (go)]")
        # A word that needs an indirect report, put where there will be one.
        self.changed("/I you today here [go I]", [("word", (0, 0), 0, ("self",)), ("manner", (0,))], "/I you today here (go self)")
        self.changed("/I you today here (go self)", [("word", (0, 0), 0, ("I",)), ("manner", (0,))], "/I you today here [go I]")

    def test_tongues(self):
        found = letter()
        for at, name in enumerate(("person", "you", "today", "here")):
            for shifts in (True, False):
                new = apply_changes(found, [("tongue", name, shifts)])
                self.assertEqual(new.tongues, tuple(tongue for tongue in TONGUES if tongue.shifts[at] is shifts))
                self.assertEqual((new.talk, new.facts), (found.talk, found.facts))
        new = apply_changes(letter(tongues=[SHIFT, STAY]), [("tongue", "you", False), ["tongue", "here", False]])
        self.assertEqual(new.tongues, (STAY,))

    def test_facts(self):
        old = [("weekday", D, 3)]
        new = apply_changes(letter(rows=old), [("fact", SAME), ["fact", ("unlike", ("T",), ("H",))]])
        self.assertEqual(new.facts, Facts(old + [SAME, ("unlike", ("T",), ("H",))]))
        # A fact that stands there already may be added.
        self.assertEqual(apply_changes(letter(rows=[SAME]), [("fact", SAME)]).facts, Facts([SAME, SAME]))

    def test_the_old_letter_stays_and_lists_may_be_changed(self):
        found = letter()
        other = letter()
        path, change = [0], ["word", None, 0, ("you",)]
        change[1] = path
        changes = [change]
        new = apply_changes(found, changes)
        path[0] = 1
        change[3] = ("I",)
        changes.clear()
        self.assertEqual(found, other)
        self.assertEqual(new.talk.rows[0].words[0], ("you",))


class BadChangeTest(LetterCase):
    def refuse(self, what, change, found=None):
        self.refused(BadChange(1, what), apply_changes, found or letter(), [("fact", SAME), change, None])

    def test_what_is_no_sequence(self):
        for no in (None, "abc", {}, 3, {("fact", SAME)}, object()):
            self.refused(BadChange(0, "sequence"), apply_changes, letter(), no)

    def test_what_is_no_change(self):
        for no in (
                None, "word", {}, 3, (), [], ("tongue",), ("words", (0,), 0, ("you",)), (None, (0,), 0, ("you",)),
                ("word", (0,), 0), ("word", (0,), 0, ("you",), 1), ("add", (0,), 1), ("add", (0,), 1, 1, 1), ("manner",),
                ("manner", (0,), 1), ("fact",), ("fact", SAME, 1), ("tongue", "person"), ("tongue", "person", True, 1),
                ("tongue", "I", True), ("tongue", None, True), ("tongue", ("person",), True), ("tongue", "today", 1),
                ("tongue", "today", 0), ("tongue", "today", None), ("Fact", SAME), (["word"], (0,), 0, ("you",)), object()):
            self.refuse("change", no)

    def test_the_path(self):
        for path in (None, (), (3,), (-1,), (True,), "0", (0, 0), (1, 1), {0: 0}, 0):
            self.refuse("path", ("word", path, 9, None))
            self.refuse("path", ["add", path, 9, None])
            self.refuse("path", ("manner", path))
        for path in ((0,), [1, 0], (2, 0)):
            self.refuse("path", ("manner", path))

    def test_the_index(self):
        for path, count in [((0,), 3), ([1], 4), ((1, 0), 4), ((2, 0), 2)]:
            for index in [count, -1, None, True, False, "0", 0.0, (0,)]:
                self.refuse("index", ("word", path, index, None))
                self.refuse("index", ("add", path, index, None))

    def test_the_kind(self):
        for no in NO_WORDS:
            self.refuse("kind", ("word", (0,), 0, no))
        for path, index, word in [((0,), 0, ("today", 1)), ((0,), 1, ("here",)), ((0,), 2, ("I",)), ((1,), 0, ("one day",)),
                                  ((1,), 2, ("somebody",)), ((1,), 3, ("place", "Rome"))]:
            self.refuse("kind", ("word", path, index, word))
        for path, index, word in [((0,), 0, ("somebody",)), ((0,), 1, ("one day",)), ((0,), 2, ("somewhere",))]:
            self.refuse("kind", ("word", path, index, word))
        for path, index in [((0,), 0), ((0,), 2), ((1,), 2), ((1, 0), 2), ((2,), 2), ((1,), 0)]:
            self.refuse("kind", ("add", path, index, None))
        # But for "double" each is judged alone: a word put there does not help.
        self.refused(BadChange(1, "kind"), apply_changes, letter(), [("word", (0,), 0, ("you",)), ("add", (0,), 0, 1)])
        self.refused(BadChange(1, "kind"), apply_changes, letter(), [("word", (1,), 2, ("date", 3)), ("add", (1,), 2, 1)])

    def test_the_amount(self):
        for k in NO_WHOLES + [0, 31, -31, 10 ** 30, 1.5]:
            for path, index in [((0,), 1), ((1, 0), 1), ((1, 0), 3)]:
                self.refuse("amount", ("add", path, index, k))

    def test_the_fact(self):
        for no in (None, (), "same", ["same", ("T",), ("H",)], ("same", ["T"], ("H",)), ("same", ("T",), ("Z",)),
                   ("weekday", D, True), ("weekday", D, 7), ("between", D, D, 1), ("between", D, D, True, None),
                   ("same", ("who", 12), ("T",)), ("weekday", ("date", True), 1)):
            self.refuse("fact", ("fact", no))

    def test_double(self):
        found = letter()
        for one, other in [
                (("word", (0,), 0, ("you",)), ["word", [0], 0, ("name", "ann")]), (("add", (0,), 1, 1), ("add", [0], 1, 2)),
                (("manner", (1,)), ["manner", [1]]), (("tongue", "you", True), ("tongue", "you", False)),
                (("fact", SAME), ["fact", SAME])]:
            self.refused(BadChange(2, "double"), apply_changes, found, [one, ("tongue", "here", True), other])
            self.refused(BadChange(1, "double"), apply_changes, found, [one, one])
        for one, other in [
                (("word", (0,), 1, ("today", 2)), ("add", (0,), 1, 2)), (("word", (0,), 0, ("you",)), ("word", (2, 0), 0, ("you",))),
                (("manner", (2,)), ("word", (2,), 0, ("I",))), (("add", (0,), 1, 2), ("add", (1, 0), 1, 2)),
                (("tongue", "you", True), ("tongue", "person", True)), (("fact", SAME), ("fact", ("same", ("name", "ann"), ("T",))))]:
            apply_changes(found, [one, other])

    def test_the_first_wrong_change_and_its_first_word(self):
        found = letter()
        bad = [("change", ("tongue", "you", 1)), ("path", ("manner", (0,))), ("index", ("word", (0,), 9, 9)),
               ("kind", ("word", (0,), 0, 9)), ("amount", ("add", (0,), 1, 0)), ("fact", ("fact", 3))]
        for (what, one), (_, other) in itertools.permutations(bad, 2):
            self.refused(BadChange(0, what), apply_changes, found, [one, other])
            self.refused(BadChange(1, what), apply_changes, found, (("manner", (1,)), one, other))
        # All words of one change come before those of the next, "double" too.
        self.refused(BadChange(1, "double"), apply_changes, found, [("manner", (1,)), ("manner", (1,)), None])
        # What is no letter is told only behind all bad changes.
        self.refused(BadChange(1, "fact"), apply_changes, found, [("add", (0,), 1, 30), ("fact", None)])


class NoLetterTest(LetterCase):
    def refuse(self, what, changes, found=None):
        for order in itertools.permutations(changes):
            self.refused(NoLetter(what), apply_changes, found or letter(), order)

    def test_the_word(self):
        self.refuse("word", [("add", (0,), 1, 30)])
        self.refuse("word", [("add", (1, 0), 1, 29)])
        self.refuse("word", [("word", (0,), 1, ("coming", 3)), ("add", (0,), 1, 1)])
        self.refuse("word", [("word", (0,), 1, ("today", -5)), ("add", (0,), 1, -26)])
        self.refuse("word", [("word", (1, 0), 3, ("then last", 3)), ("add", (1, 0), 3, 1)])

    def test_outside(self):
        self.refuse("outside", [("manner", (1,))])
        self.refuse("outside", [("word", (0,), 0, ("self",))])
        self.refuse("outside", [("word", (2, 0), 0, ("told",))])
        self.refuse("outside", [("word", (1,), 0, ("self",))])
        self.refuse("outside", [("word", (1, 0), 0, ("I",)), ("manner", (1,))])
        new = apply_changes(letter(), [("word", (1, 0), 0, ("I",)), ("word", (1, 0), 1, ("today", 1)), ("manner", (1,))])
        self.assertEqual(new.talk.rows[1].manner, "own")

    def test_tongue(self):
        self.refuse("tongue", [("tongue", "you", True)], letter(tongues=[STAY]))
        self.refuse("tongue", [("tongue", "you", True), ("tongue", "here", False)], letter(tongues=[STAY, SHIFT]))

    def test_facts(self):
        full = [("unlike", ("T",), ("who", at)) for at in range(7)]
        more = [("fact", ("unlike", ("H",), ("who", at))) for at in range(2)]
        self.assertEqual(len(apply_changes(letter(rows=full), more[:1]).facts), 8)
        self.refuse("facts", more, letter(rows=full))
        self.refuse("facts", [("fact", ("unlike", ("T",), ("T",)))])
        self.refuse("facts", [("fact", ("weekday", D, 3)), ("fact", ("weekday", D, 4))])
        self.refuse("facts", [("fact", ("weekday", D, 3))], letter(rows=[("weekday", D, 4)]))

    def test_the_order_of_the_words(self):
        found = letter(tongues=[STAY])
        rows = [("word", [("add", (0,), 1, 30)]), ("outside", [("manner", (1,))]), ("tongue", [("tongue", "you", True)]),
                ("facts", [("fact", ("unlike", ("T",), ("T",)))])]
        for size in range(1, 5):
            for chosen in itertools.combinations(rows, size):
                self.refuse(chosen[0][0], [change for _, changes in chosen for change in changes], found)


class OrderTest(LetterCase):
    def test_changes_in_every_order(self):
        rng = random.Random(181)
        made = refused = 0
        for _ in range(120):
            found = small_letter(rng, 16)
            changes = random_changes(rng, found)
            results = []
            for order in itertools.islice(itertools.permutations(changes), 24):
                try:
                    new = apply_changes(found, order)
                    results.append((new.talk, new.tongues, sorted(map(repr, new.facts.rows))))
                    self.assertEqual(new.facts.rows[:len(found.facts)], found.facts.rows)
                    self.assertEqual(new.facts.rows[len(found.facts):], tuple(
                        change[1] for change in order if change[0] == "fact"))
                except NoLetter as error:
                    results.append(error.what)
            self.assertTrue(all(result == results[0] for result in results))
            made += not isinstance(results[0], str)
            refused += isinstance(results[0], str)
        self.assertTrue(min(made, refused) > 10)

    def test_paths_and_kinds_never_change(self):
        rng = random.Random(182)
        for _ in range(80):
            found = small_letter(rng, 16)
            try:
                new = apply_changes(found, random_changes(rng, found))
            except NoLetter:
                continue
            self.assertEqual(
                [(path, index, find_kind(word)) for path, index, word in words_of(new.talk)],
                [(path, index, find_kind(word)) for path, index, word in words_of(found.talk)])
            self.assertIsInstance(new.talk, Talk)
        self.assertEqual(apply_changes(FoundLetter(read_talk("come"), [Tongue(True, True, True, True)], NONE), []).facts, NONE)


if __name__ == "__main__":
    unittest.main()
