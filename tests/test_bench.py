"""[10.18]: the bench."""

import random
import unittest

from tests.helper import NO_WHOLES, SHIFT, STAY, TONGUES
from tests.letterkit import LetterCase, random_changes, small_letter
from whosetomorrow.bench import Bench
from whosetomorrow.changes import apply_changes
from whosetomorrow.errors import BadChange, NoChange, NoLetter
from whosetomorrow.facts import Facts
from whosetomorrow.found import FoundLetter
from whosetomorrow.talktext import read_talk

SAME = ("fact", ("same", ("T",), ("name", "ann")))
ADD = ("add", (0,), 1, 10)
WORD = ("word", (0,), 1, ("today", 5))
MANNER = ("manner", (1,))


def letter(text="come I today+20 here; /@cy I today here (go self that)", rows=(), tongues=(STAY, SHIFT)):
    """Return the letter of a text."""
    return FoundLetter(read_talk(text), tongues, Facts(rows))


def state(bench):
    """Return all that a bench tells."""
    return (bench.start, bench.letter, bench.standing, bench.log, len(bench), list(bench))


class Stop(Exception):
    """An error of the tests."""


class PutTest(LetterCase):
    def test_a_new_bench(self):
        found = letter()
        bench = Bench(found)
        self.assertEqual(state(bench), (found, found, (), (), 0, []))

    def test_put_and_take_back(self):
        found = letter()
        bench = Bench(found)
        self.assertEqual(bench.put(ADD), 1)
        self.assertEqual(bench.put(["fact", SAME[1]]), 2)
        self.assertEqual(bench.put(("tongue", "you", True)), 3)
        self.assertEqual(bench.standing, ((1, ADD), (2, SAME), (3, ("tongue", "you", True))))
        self.assertEqual(list(bench), list(bench.standing))
        self.assertEqual(len(bench), 3)
        self.assertEqual(bench.letter, apply_changes(found, [ADD, SAME, ("tongue", "you", True)]))
        self.assertEqual(bench.start, found)
        self.assertIsNone(bench.take_back(2))
        self.assertEqual(bench.standing, ((1, ADD), (3, ("tongue", "you", True))))
        self.assertEqual(bench.letter, apply_changes(found, [ADD, ("tongue", "you", True)]))
        self.assertEqual(bench.put(SAME), 4)
        self.assertEqual(bench.log, (
            ("put", 1, ADD), ("put", 2, SAME), ("put", 3, ("tongue", "you", True)), ("back", 2, SAME), ("put", 4, SAME)))
        self.tuples_only(bench.log)
        self.tuples_only(bench.standing)

    def test_changes_as_tuples_and_lists_changed_later(self):
        bench = Bench(letter())
        path = [0]
        change = ["word", path, 0, ("you",)]
        bench.put(change)
        path[0] = 1
        change[0] = "add"
        self.assertEqual(bench.standing, ((1, ("word", (0,), 0, ("you",))),))
        self.assertEqual(bench.log, (("put", 1, ("word", (0,), 0, ("you",))),))
        bench.put(["manner", [1]] if False else ["add", [0], 1, 3])
        self.assertEqual(bench.standing[1], (2, ("add", (0,), 1, 3)))

    def test_bad_changes_against_start(self):
        bench = Bench(letter())
        bench.put(SAME)
        bench.put(("word", (0,), 1, ("date", 5)))
        before = state(bench)
        for what, change in [
                ("change", None), ("change", ("fact",)), ("change", [SAME]), ("path", ("manner", (0,))), ("path", ("word", (7,), 0, 0)),
                ("index", ("add", (0,), 3, 0)), ("kind", ("add", (0,), 0, 0)), ("amount", ("add", (0,), 1, 0)), ("fact", ("fact", 3)),
                ("kind", ("word", (0,), 0, ("here",))), ("double", SAME), ("double", ["word", [0], 1, ("coming", 3)])]:
            self.refused(BadChange(0, what), bench.put, change)
            self.assertEqual(state(bench), before)
        # The word put is a date, but what stands in start is a coming day: none of the three.
        bench = Bench(letter("come coming3"))
        bench.put(("word", (0,), 0, ("date", 5)))
        self.refused(BadChange(0, "kind"), bench.put, ("add", (0,), 0, 1))

    def test_double_only_beside_standing_ones(self):
        bench = Bench(letter())
        bench.put(ADD)
        self.refused(BadChange(0, "double"), bench.put, ("add", [0], 1, 3))
        bench.take_back(1)
        self.assertEqual(bench.put(("add", [0], 1, 3)), 2)
        self.refused(BadChange(0, "double"), bench.put, ADD)

    def test_no_letter(self):
        bench = Bench(letter())
        bench.put(ADD)
        bench.put(("tongue", "you", True))
        before = state(bench)
        for what, change in [
                ("word", ("word", (0,), 1, ("coming", 3))), ("word", ("word", (0,), 1, ("today", 30))), ("outside", MANNER),
                ("tongue", ("tongue", "here", False)), ("facts", ("fact", ("unlike", ("T",), ("T",))))]:
            self.refused(NoLetter(what), bench.put, change)
            self.assertEqual(state(bench), before)
        # Its number was not given.
        self.assertEqual(bench.put(SAME), 3)

    def test_numbers_that_do_not_stand(self):
        bench = Bench(letter())
        for number in NO_WHOLES + [0, 1, -1]:
            self.refused(NoChange(number), bench.take_back, number)
        bench.put(ADD)
        bench.put(SAME)
        for number in NO_WHOLES + [0, 3]:
            self.refused(NoChange(number), bench.take_back, number)
        self.assertEqual(len(bench), 2)
        bench.take_back(1)
        before = state(bench)
        for number in NO_WHOLES + [0, 1, 3, -2, 10 ** 30]:
            self.refused(NoChange(number), bench.take_back, number)
            self.assertEqual(state(bench), before)

    def test_one_whose_going_leaves_no_letter(self):
        bench = Bench(letter())
        bench.put(("word", (0,), 1, ("today", -20)))
        bench.put(("add", (0,), 1, 30))
        before = state(bench)
        self.refused(NoLetter("word"), bench.take_back, 1)
        self.assertEqual(state(bench), before)
        bench.take_back(2)
        bench.take_back(1)
        self.assertEqual(bench.letter, bench.start)
        bench = Bench(letter())
        for change in [("word", (1, 0), 0, ("I",)), ("word", (1, 0), 1, ("today", 0)), MANNER]:
            bench.put(change)
        self.refused(NoLetter("outside"), bench.take_back, 2)
        self.assertEqual(len(bench), 3)


class TrialTest(LetterCase):
    def test_all_is_as_when_the_block_began(self):
        bench = Bench(letter())
        bench.put(SAME)
        before = state(bench)
        with bench.trial() as tried:
            self.assertIs(tried, bench)
            self.assertEqual(bench.put(ADD), 2)
            bench.take_back(1)
            self.assertEqual(bench.standing, ((2, ADD),))
        self.assertEqual(state(bench), before)
        # Numbers are given again.
        self.assertEqual(bench.put(("tongue", "you", True)), 2)

    def test_as_when_the_block_began_and_not_when_it_was_asked_for(self):
        bench = Bench(letter())
        trial = bench.trial()
        bench.put(SAME)
        before = state(bench)
        with trial:
            bench.put(ADD)
        self.assertEqual(state(bench), before)
        with trial:
            bench.put(ADD)
            bench.take_back(1)
        self.assertEqual(state(bench), before)
        bench.trial()
        bench.put(ADD)
        self.assertEqual(len(bench), 2)

    def test_errors_go_on(self):
        bench = Bench(letter())
        bench.put(SAME)
        before = state(bench)
        with self.assertRaises(Stop) as caught:
            with bench.trial():
                bench.put(ADD)
                raise Stop("told")
        self.assertEqual(caught.exception.args, ("told",))
        self.assertEqual(state(bench), before)
        with self.assertRaises(NoLetter):
            with bench.trial() as tried:
                tried.put(ADD)
                tried.put(MANNER)
        self.assertEqual(state(bench), before)
        self.assertEqual(bench.put(ADD), 2)

    def test_nested_trials(self):
        bench = Bench(letter())
        bench.put(SAME)
        outer = state(bench)
        trial = bench.trial()
        for inner_trial in (bench.trial(), trial):
            with trial:
                bench.put(ADD)
                inner = state(bench)
                with inner_trial as tried:
                    self.assertEqual(tried.put(("tongue", "you", True)), 3)
                    with self.assertRaises(Stop):
                        with tried.trial():
                            tried.take_back(3)
                            tried.put(("tongue", "you", False))
                            raise Stop
                    self.assertEqual(len(bench), 3)
                    self.assertEqual(bench.put(("tongue", "here", True)), 4)
                self.assertEqual(state(bench), inner)
                self.assertEqual(bench.put(("tongue", "you", False)), 3)
            self.assertEqual(state(bench), outer)

    def test_two_benches(self):
        one, other = Bench(letter()), Bench(letter())
        with one.trial():
            with other.trial():
                one.put(ADD)
                other.put(SAME)
            self.assertEqual((len(one), len(other)), (1, 0))
        self.assertEqual((len(one), len(other)), (0, 0))

    def test_what_tried_returns_and_raises(self):
        bench = Bench(letter())
        bench.put(SAME)
        before = state(bench)
        thing = object()
        self.assertIs(bench.tried(lambda tried: thing), thing)
        self.assertIsNone(bench.tried(lambda tried: tried.take_back(1)))
        self.assertEqual(bench.tried(lambda tried: (tried.put(ADD), len(tried), tried is bench)), (2, 2, True))
        self.assertEqual(bench.tried(lambda tried: tried.tried(lambda inner: inner.put(ADD)) + tried.put(ADD)), 4)
        self.assertEqual(state(bench), before)

        def stop(tried):
            tried.put(ADD)
            raise Stop("here")

        with self.assertRaises(Stop):
            bench.tried(stop)
        self.refused(BadChange(0, "double"), bench.tried, lambda tried: tried.put(SAME))
        self.refused(NoChange(7), bench.tried, lambda tried: tried.take_back(7))
        self.assertEqual(state(bench), before)
        self.assertEqual(bench.put(ADD), 2)


class Told:
    """A bench kept another way: by its log alone."""

    def __init__(self, found):
        self.found = found
        self.log = []

    def standing(self):
        """Return what stands."""
        back = [number for what, number, _ in self.log if what == "back"]
        return tuple((number, change) for what, number, change in self.log if what == "put" and number not in back)

    def given(self):
        """Return how many numbers were given."""
        return len([row for row in self.log if row[0] == "put"])

    def letter(self):
        """Return the letter behind what stands."""
        return apply_changes(self.found, [change for _, change in self.standing()])

    def do(self, rng, changes):
        """Do something; return (what, argument, result or error)."""
        if rng.random() < 0.65:
            change = rng.choice(changes)
            self.log.append(("put", self.given() + 1, change))
            return self.finish("put", change, self.given())
        number = rng.randint(0, self.given() + 1)
        found = [change for at, change in self.standing() if at == number]
        if not found:
            return ("take_back", number, NoChange(number))
        self.log.append(("back", number, found[0]))
        return self.finish("take_back", number, None)

    def finish(self, what, argument, result):
        """Undo the last call if it leaves no letter."""
        try:
            self.letter()
        except BadChange as error:
            self.log.pop()
            return (what, argument, BadChange(0, error.what))
        except NoLetter as error:
            self.log.pop()
            return (what, argument, NoLetter(error.what))
        return (what, argument, result)


class WholeTest(LetterCase):
    def test_after_every_call(self):
        rng = random.Random(211)
        seen = set()
        for _ in range(30):
            found = small_letter(rng, 16)
            changes = [change for _ in range(4) for change in random_changes(rng, found)]
            if not changes:
                continue
            bench, other = Bench(found), Told(found)
            self.run_calls(rng, bench, other, changes, 14, seen)
        self.assertTrue({"int", "NoneType", "BadChange", "NoLetter", "NoChange"} <= seen, seen)

    def run_calls(self, rng, bench, other, changes, many, seen):
        """Make random calls, some of them within trials."""
        for _ in range(many):
            if rng.random() < 0.15 and many > 3:
                before, log = state(bench), list(other.log)
                with bench.trial():
                    self.run_calls(rng, bench, other, changes, 3, seen)
                other.log = log
                self.assertEqual(state(bench), before)
            what, argument, result = other.do(rng, changes)
            seen.add(type(result).__name__)
            if isinstance(result, Exception):
                self.refused(result, getattr(bench, what), argument)
            else:
                self.assertEqual(getattr(bench, what)(argument), result)
            self.assertEqual(state(bench), (
                other.found, other.letter(), other.standing(), tuple(other.log), len(other.standing()), list(other.standing())))

    def test_iteration_stays_as_it_was(self):
        bench = Bench(letter())
        bench.put(SAME)
        bench.put(ADD)
        seen = []
        for number, change in bench:
            seen.append((number, change))
            bench.take_back(number)
        self.assertEqual(seen, [(1, SAME), (2, ADD)])
        self.assertEqual(len(bench), 0)
        self.assertEqual(len(TONGUES), 16)


if __name__ == "__main__":
    unittest.main()
