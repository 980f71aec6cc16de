"""[10.16], [10.17]: the least changes behind which all wishes hold."""

import itertools
import random
import unittest

from tests.helper import SHIFT, STAY, TONGUES
from tests.letterkit import random_changes, small_letter
from tests.test_wishes import WishCase
from whosetomorrow.changes import apply_changes
from whosetomorrow.errors import BadChange, BadWish, NoLetter
from whosetomorrow.facts import Facts
from whosetomorrow.found import FoundLetter, Reading, a_reading
from whosetomorrow.mends import Mends, Spoiler, find_mends, find_spoilers, mends_fault
from whosetomorrow.situations import Tongue
from whosetomorrow.talktext import read_talk
from whosetomorrow.talkways import words_of
from whosetomorrow.wishes import Miss, find_miss
from whosetomorrow.words import find_kind

D = ("D",)
SAFE = ("safe",)
SAME = ("fact", ("same", ("T",), ("name", "ann")))


def letter(text, rows=(), tongues=(STAY, SHIFT)):
    """Return the letter of a text."""
    return FoundLetter(read_talk(text), tongues, Facts(rows))


def choices_of(count):
    """Return all choices of so many places in their order."""
    return [choice for size in range(count + 1) for choice in itertools.combinations(range(count), size)]


def reason(found, wishes, pool, choice):
    """Return None if a choice is good, "miss" if wishes do not hold, otherwise the word of the NoLetter."""
    try:
        new = apply_changes(found, [pool[place] for place in choice])
    except NoLetter as error:
        return error.what
    return None if find_miss(new, wishes) is None else "miss"


def tried(found, wishes, pool):
    """Return (least choices, couples of the other choices and reasons), found by trying all choices."""
    good = [choice for choice in choices_of(len(pool)) if reason(found, wishes, pool, choice) is None]
    least = [choice for choice in good if not any(set(other) < set(choice) for other in good)]
    rest = [choice for choice in choices_of(len(pool)) if not any(set(other) <= set(choice) for other in least)]
    return least, [(choice, reason(found, wishes, pool, choice)) for choice in rest]


TOLD = letter("/@cy I today-1 here (go I today)")
WISHES = (SAFE,)
POOL = (
    ("word", (0, 0), 0, ("self",)), ("word", (0, 0), 1, ("that day", 0)), ("tongue", "person", True),
    ("tongue", "today", False), ("manner", (0,)))


class ResultTest(WishCase):
    def test_what_is_given_is_kept(self):
        least, misses = [(0,)], []
        mends = Mends(least, misses)
        self.assertIs(mends.least, least)
        self.assertIs(mends.misses, misses)
        self.assertEqual(vars(Spoiler(1, 2, 3)), {"choice": 1, "added": 2, "why": 3})

    def test_needed(self):
        for least, needed in [((), ()), (((),), ()), (((0, 2),), (0, 2)), (((0, 2), (1, 2)), (2,)), (((0,), (1,)), ()),
                              (((0, 1, 3), (1, 2, 3)), (1, 3)), (((3, 4),), (3, 4))]:
            self.assertEqual(Mends(least, ()).needed, needed)
        self.assertIsInstance(Mends.needed, property)

    def test_equality(self):
        self.equal_only((Mends(((0,),), (((), "word"),)), Mends(((0,),), (((), "word"),))), [
            Mends(((1,),), (((), "word"),)), Mends(((0,),), (((), "tongue"),)), Mends((), ()), Spoiler(((0,),), (), "word")])
        self.equal_only((Spoiler((0,), 1, "word"), Spoiler((0,), 1, "word")), [
            Spoiler((1,), 1, "word"), Spoiler((0,), 2, "word"), Spoiler((0,), 1, None)])


class FindMendsTest(WishCase):
    def check(self, found, wishes, pool):
        """Check what mends a letter against trying all choices; return the mends."""
        mends = find_mends(found, wishes, pool)
        least, rest = tried(found, wishes, pool)
        self.assertIsInstance(mends, Mends)
        self.assertEqual(mends.least, tuple(least))
        self.assertEqual([choice for choice, _ in mends.misses], [choice for choice, _ in rest])
        for (choice, why), (_, told) in zip(mends.misses, rest):
            self.check_why(found, wishes, pool, choice, why, told)
        common = [place for place in range(len(pool)) if least and all(place in choice for choice in least)]
        self.assertEqual(mends.needed, tuple(common))
        self.assertIsNone(mends_fault(found, wishes, pool, mends))
        self.tuples_only(mends.least)
        self.tuples_only(mends.misses)
        self.check_spoilers(found, wishes, pool, least)
        return mends

    def check_why(self, found, wishes, pool, choice, why, told):
        """Check why a choice is not good."""
        if told == "miss":
            self.check_miss(apply_changes(found, [pool[place] for place in choice]), wishes, why)
        else:
            self.assertEqual(why, told)

    def check_spoilers(self, found, wishes, pool, least):
        """Check all spoilers."""
        spoilers = find_spoilers(found, wishes, pool)
        self.assertIsInstance(spoilers, tuple)
        expected = []
        for choice in least:
            for added in range(len(pool)):
                both = tuple(sorted(set(choice) | {added}))
                if added not in choice and reason(found, wishes, pool, both) is not None:
                    expected.append((choice, added, both))
        self.assertEqual([(spoiler.choice, spoiler.added) for spoiler in spoilers], [row[:2] for row in expected])
        for spoiler, (_, _, both) in zip(spoilers, expected):
            self.assertIsInstance(spoiler, Spoiler)
            self.check_why(found, wishes, pool, both, spoiler.why, reason(found, wishes, pool, both))

    def test_several_least_choices(self):
        mends = self.check(TOLD, WISHES, POOL)
        self.assertEqual(mends.least, ((2,), (3,), (4,), (0, 1)))
        self.assertEqual(mends.needed, ())
        self.assertEqual([choice for choice, _ in mends.misses], [(), (0,), (1,)])
        spoilers = find_spoilers(TOLD, WISHES, POOL)
        told = [(spoiler.choice, spoiler.added, spoiler.why) for spoiler in spoilers]
        self.assertEqual(told, [
            ((2,), 3, "tongue"), ((3,), 2, "tongue"), ((4,), 0, "outside"), ((4,), 1, "outside"), ((0, 1), 4, "outside")])

    def test_needed_places(self):
        wishes = [("means", (0, 0), 0, ("name", "cy")), SAFE]
        mends = self.check(TOLD, wishes, POOL[:2] + POOL[3:])
        self.assertEqual(mends.least, ((3,), (0, 1), (0, 2)))
        mends = self.check(TOLD, wishes, POOL[:2])
        self.assertEqual((mends.least, mends.needed), (((0, 1),), (0, 1)))

    def test_none_is_needed(self):
        mends = self.check(letter("come I"), [("sure", (0,), 0), SAFE], [SAME, ("tongue", "you", True)])
        self.assertEqual((mends.least, mends.needed), (((0,),), (0,)))
        mends = self.check(letter("come @ann"), [("sure", (0,), 0), SAFE], [SAME, ("tongue", "you", True)])
        self.assertEqual((mends.least, mends.misses, mends.needed), (((),), (), ()))

    def test_no_mends(self):
        mends = self.check(letter("come I"), [("means", (0,), 0, ("name", "bob"))], [SAME, ("tongue", "you", True)])
        self.assertEqual((mends.least, mends.needed), ((), ()))
        self.assertEqual(len(mends.misses), 4)
        self.assertEqual(find_spoilers(letter("come I"), [("means", (0,), 0, ("name", "bob"))], [SAME]), ())

    def test_facts_and_words_that_leave_no_letter(self):
        found = letter("come I today+1")
        pool = [SAME, ("fact", ("same", ("T",), ("name", "bob"))), ("add", (0,), 1, 30), ["add", [0], 1, -1]][:3]
        mends = self.check(found, [("sure", (0,), 0)], pool)
        self.assertEqual(mends.least, ((0,), (1,)))
        self.assertEqual(dict(mends.misses)[(2,)], "word")
        self.assertEqual([(row.choice, row.added, row.why) for row in find_spoilers(found, [("sure", (0,), 0)], pool)], [
            ((0,), 1, "facts"), ((0,), 2, "word"), ((1,), 0, "facts"), ((1,), 2, "word")])

    def test_against_trying_all_choices(self):
        rng = random.Random(201)
        sizes = set()
        for _ in range(40):
            found = small_letter(rng, 4, 2)
            pool = random_changes(rng, found)[:4] + [SAME]
            places = list(words_of(found.talk))
            wishes = [SAFE]
            if places:
                path, index, word = rng.choice(places)
                term = {"person": ("name", "ann"), "day": ("date", 3), "place": ("Z",)}[find_kind(word)]
                wishes = rng.sample([SAFE, ("sure", path, index), ("means", path, index, term)], 2)
            mends = self.check(found, wishes, pool)
            sizes |= {len(choice) for choice in mends.least} | ({None} if not mends.least else set())
        self.assertTrue({None, 0, 1} <= sizes, sizes)

    def test_five_changes(self):
        pool = list(POOL)
        mends = self.check(TOLD, [SAFE, ("promise", (0, 0)), ("sure", (0, 0), 0), ("same as", read_talk(
            "/@cy I today-1 here [go I today]"))], pool)
        self.assertEqual(mends.least, ((4,),))
        pool.clear()
        self.assertEqual(mends.least, ((4,),))


class ErrorsTest(WishCase):
    def test_errors_in_their_order(self):
        functions = [(find_mends, ()), (find_spoilers, ()), (mends_fault, (Mends((), ()),))]
        for function, more in functions:
            self.refused(BadWish(0, "sequence"), function, TOLD, [], None, *more)
            self.refused(BadWish(1, "path"), function, TOLD, [SAFE, ("promise", (0,))], None, *more)
            for no in (None, "abc", {}, (), [], [SAME] * 6, 3, {SAME}, list(POOL) + [3]):
                self.refused(BadChange(0, "pool"), function, TOLD, WISHES, no, *more)
            self.refused(BadChange(1, "change"), function, TOLD, WISHES, [SAME, None], *more)
            self.refused(BadChange(1, "double"), function, TOLD, WISHES, [SAME, SAME], *more)
            self.refused(BadChange(0, "path"), function, TOLD, WISHES, [("manner", (0, 0)), None], *more)

    def test_wishes_are_judged_by_the_letter_itself(self):
        # No change makes a path, an index or a kind wrong or right.
        self.refused(BadWish(0, "term"), find_mends, TOLD, [("means", (0, 0), 0, ("Z",))], POOL)


class MendsFaultTest(WishCase):
    def setUp(self):
        self.mends = find_mends(TOLD, WISHES, POOL)
        self.least = self.mends.least
        self.misses = self.mends.misses

    def fault(self, least, misses):
        return mends_fault(TOLD, WISHES, POOL, Mends(least, misses))

    def test_right_mends(self):
        self.assertIsNone(self.fault(self.least, self.misses))
        reading = a_reading(TOLD)
        other = Miss(0, (Reading(STAY, reading.situation, reading.value_rows), Reading(SHIFT, reading.situation, reading.value_rows)))
        self.assertIsNone(self.fault(self.least, (((), other),) + self.misses[1:]))

    def test_the_order(self):
        for least in [list(self.least), None, self.least + self.least[-1:], self.least[::-1], (2, 3), ((2, 2),), ((5,),), ((-1,),),
                      ((True,),), ([2],), ((1, 0),), ((0, 1), (2,)), "ab", ((None,),)]:
            self.assertEqual(self.fault(least, self.misses), "order")
        for misses in [list(self.misses), None, self.misses[::-1], self.misses + self.misses[-1:], ((),), (self.misses[0][:1],),
                       (((), "word", 1),), ((0, "word"),), (((5,), "word"),), (((True,), "word"),), (((1, 0), "word"),),
                       ([(), "word"],)]:
            self.assertEqual(self.fault(self.least, misses), "order")
        self.assertEqual(self.fault(((9,),), None), "order")

    def test_within(self):
        self.assertEqual(self.fault(((2,), (2, 3)), self.misses), "within")
        self.assertEqual(self.fault(((), (2,)), ()), "within")
        self.assertEqual(self.fault(self.least, self.misses + (((2,), "word"),)), "within")
        self.assertEqual(self.fault(self.least, self.misses + (((0, 2), "word"),)), "within")
        self.assertEqual(self.fault(((),), (((), "word"),)), "within")

    def test_lacking(self):
        self.assertEqual(self.fault(self.least, self.misses[1:]), "lacking")
        self.assertEqual(self.fault(self.least[1:], self.misses), "lacking")
        self.assertEqual(self.fault((), ()), "lacking")

    def test_least(self):
        self.assertEqual(self.fault(((0,), (1,), (2,), (3,), (4,)), (((), "word"),)), "least")
        self.assertEqual(self.fault(((),), ()), "least")

    def test_why(self):
        for at, (choice, why) in enumerate(self.misses):
            for no in ("word", "outside", None, Miss(0, ()), Miss(1, why.readings), Miss(0, why.readings[:1]), 3, choice):
                changed = self.misses[:at] + ((choice, no),) + self.misses[at + 1:]
                self.assertEqual(self.fault(self.least, changed), "why")
        # A good choice told as a miss has no right reason.
        rest = tuple((choice, "word") for choice in choices_of(5) if not {2, 3} & set(choice) and choice != (4,))
        self.assertEqual(self.fault(((2,), (3,), (4,)), tuple(row for row in rest if 4 not in row[0])), "why")

    def test_why_of_no_letter(self):
        found = letter("come I today+1")
        pool = [SAME, ("fact", ("same", ("T",), ("name", "bob"))), ("add", (0,), 1, 30)]
        wishes = [("means", (0,), 0, ("name", "ann"))]
        mends = find_mends(found, wishes, pool)
        self.assertIsNone(mends_fault(found, wishes, pool, mends))
        told = dict(mends.misses)
        self.assertEqual(told[(2,)], "word")
        self.assertEqual(told[(1, 2)], "word")
        for no in ("facts", "", None, told[()]):
            misses = tuple((choice, no if choice == (2,) else why) for choice, why in mends.misses)
            self.assertEqual(mends_fault(found, wishes, pool, Mends(mends.least, misses)), "why")

    def test_words_in_their_order(self):
        wrong = tuple((choice, "word") for choice, _ in self.misses)
        self.assertEqual(self.fault(((2,), (2, 3)), wrong), "within")
        self.assertEqual(self.fault(((), (2,)), wrong), "within")
        self.assertEqual(self.fault(((0,), (1,), (2,), (3,)), wrong[:1]), "lacking")
        self.assertEqual(self.fault(((0,), (1,), (2,), (3,), (4,)), wrong[:1]), "least")
        self.assertEqual(self.fault(self.least, wrong), "why")

    def test_sixteen_tongues(self):
        found = letter("/@cy I today-1 here (go I today)", (), TONGUES)
        mends = find_mends(found, WISHES, POOL)
        self.assertIsNone(mends_fault(found, WISHES, POOL, mends))
        self.assertEqual(mends.least[0], (4,))
        self.assertIsInstance(found.tongues[0], Tongue)
        self.assertEqual(D, ("D",))


if __name__ == "__main__":
    unittest.main()
