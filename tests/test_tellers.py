"""[5.8] to [5.10]: which tongue it is."""

import itertools
import random
import unittest

from tests.helper import (
    SHIFT, STAY, TONGUES, UNKNOWN_WORDS, Case, come, random_situation, random_talk, random_values, report,
)
from tests.test_tonguegroups import NO_SEQUENCES, NO_TONGUES, tongues
from whosetomorrow.errors import BadSample, BadTalks, BadTongues, BadValues
from whosetomorrow.forms import form_of
from whosetomorrow.hearing import hear_talk
from whosetomorrow.situations import Situation, Tongue
from whosetomorrow.talks import Report, Talk
from whosetomorrow.talkways import check_values
from whosetomorrow.tellers import fitting_tongues, least_tellers, telling_situation, untold_pair

NOW = Situation("ann", "bob", 10, "rome")
PARTS = [UNKNOWN_WORDS[at] for at in (0, 0, 1, 2)]
ASKING = Talk([Report(*PARTS, "indirect", [come(("I",))])])
VALUES = (("pat", "quin", 3, "york"),)
SAY = [Talk([report("indirect", come(word))]) for word in (("I",), ("you",), ("today", 0), ("here",))]
PLAIN = Talk([come(("I",))])


class FittingTonguesTest(Case):
    def test_against_hearing_under_each_tongue(self):
        rng = random.Random(931)
        for _ in range(80):
            meant = rng.choice(TONGUES)
            samples = []
            for _ in range(rng.randint(0, 4)):
                talk = random_talk(rng, 3, 2)
                at, values = random_situation(rng), random_values(rng, talk)
                heard = hear_talk(talk, at, rng.choice([meant, meant, rng.choice(TONGUES)]), values)
                samples.append(rng.choice([list, tuple])([talk, at, values, heard]))
            passed = rng.sample(TONGUES, rng.randint(1, 16))
            told = fitting_tongues(rng.choice([list, tuple])(samples), passed)
            self.assertIsInstance(told, tuple)
            self.assertEqual(list(told), [tongue for tongue in passed if all(
                hear_talk(talk, at, tongue, values) == heard for talk, at, values, heard in samples)])

    def test_any_thing_may_be_told_as_heard(self):
        heard = hear_talk(SAY[0], NOW, STAY)
        self.assertEqual(len(fitting_tongues([(SAY[0], NOW, (), heard)], TONGUES)), 8)
        for thing in (None, [], list(heard), heard + heard, "heard", 0, (), object()):
            self.assertEqual(fitting_tongues([(SAY[0], NOW, (), thing)], TONGUES), ())
        self.assertEqual(fitting_tongues([], TONGUES), TONGUES)
        self.assertEqual(fitting_tongues((), [SHIFT, STAY, SHIFT]), (SHIFT, STAY))

    def test_samples_spoilt_at_each_entry(self):
        good = (PLAIN, NOW, (), hear_talk(PLAIN, NOW, STAY))
        self.assertEqual(fitting_tongues([good] * 8, [STAY]), (STAY,))
        for thing in (None, True, 3, "", {}, {0: good}, iter([good]), [good] * 9, [None] * 9):
            self.refused(BadSample(0), fitting_tongues, thing, [STAY])
        for bad in (None, True, "talk", good[:3], good + (0,), (), {}, PLAIN, {0: 1, 1: 2, 2: 3, 3: 4}):
            for at in range(8):
                self.refused(BadSample(at), fitting_tongues, [good] * at + [bad] + [None] * (7 - at), None)

    def test_which_error_comes_first(self):
        good, lacking = (ASKING, NOW, VALUES, None), (ASKING, NOW, (), None)
        two = Talk([Report(*PARTS, "own", [come()]), Report(*PARTS, "own", [come()])])
        self.refused(BadSample(1), fitting_tongues, [lacking, None], None)
        for thing in NO_SEQUENCES:
            self.refused(BadTongues(0), fitting_tongues, [good, lacking], thing)
        for bad in NO_TONGUES:
            self.refused(BadTongues(1), fitting_tongues, [lacking], [STAY, bad])
        self.refused(BadValues(0), fitting_tongues, [good, lacking], [STAY])
        self.refused(BadValues(1), fitting_tongues, [good, (two, NOW, VALUES, None), lacking], [STAY])
        # Bad values are refused although no tongue fits what was heard ahead of them.
        self.refused(BadValues(0), fitting_tongues, [(PLAIN, NOW, (), 3), lacking], TONGUES)


def told_apart(talks, one, other):
    """Tell whether some talk has unlike forms under two tongues."""
    return any(form_of(talk, one) != form_of(talk, other) for talk in talks)


class UntoldPairTest(Case):
    def test_the_first_pair(self):
        rng = random.Random(932)
        for _ in range(80):
            talks = [rng.choice(SAY + [random_talk(rng, 3, 2)]) for _ in range(rng.randint(0, 8))]
            passed = rng.sample(TONGUES, rng.randint(1, 16))
            pairs = [pair for pair in itertools.combinations(passed, 2) if not told_apart(talks, *pair)]
            told = untold_pair(rng.choice([list, tuple])(talks), passed)
            self.assertEqual(told, pairs[0] if pairs else None)

    def test_named_edges(self):
        self.assertIsNone(untold_pair([], [STAY]))
        self.assertIsNone(untold_pair([], [STAY, Tongue(*STAY.shifts)]))
        self.assertEqual(untold_pair([], [SHIFT, STAY]), (SHIFT, STAY))
        self.assertIsNone(untold_pair(SAY, TONGUES))
        self.assertEqual(untold_pair(SAY[:3], TONGUES), tongues("0000", "0001"))
        self.assertEqual(untold_pair(SAY[1:], TONGUES[::-1]), tongues("1111", "0111"))
        self.assertEqual(untold_pair([PLAIN] * 8, tongues("0101", "0001", "0101")), tongues("0101", "0001"))

    def test_errors(self):
        for call in (untold_pair, least_tellers):
            for thing in (None, True, 3, "", {}, PLAIN, iter([PLAIN]), [PLAIN] * 9, [None] * 9):
                self.refused(BadTalks(0), call, thing, None)
            for bad in (None, True, "come", (PLAIN,), PLAIN.rows, come(), Talk):
                for at in range(8):
                    self.refused(BadTalks(at), call, [PLAIN] * at + [bad] + [None] * (7 - at), None)
            for thing in NO_SEQUENCES:
                self.refused(BadTongues(0), call, [PLAIN], thing)
            self.refused(BadTongues(2), call, [], [STAY, SHIFT, None])


class LeastTellersTest(Case):
    def test_against_all_sets_of_talks(self):
        rng = random.Random(933)
        both = Talk([report("indirect", come(("I",), ("you",)))])
        every = Talk([report("indirect", come(("I",), ("you",), ("today", 0), ("here",)))])
        days = Talk([report("indirect", come(("today", 0), ("here",)))])
        seen = set()
        for _ in range(60):
            talks = [rng.choice(SAY + [both, every, days, PLAIN, random_talk(rng, 2, 2)]) for _ in range(rng.randint(0, 7))]
            passed = rng.sample(TONGUES, rng.choice([1, 2, 3, 5, 16]))
            good = []
            for size in range(len(talks) + 1):
                for numbers in itertools.combinations(range(len(talks)), size):
                    chosen = [talks[number] for number in numbers]
                    if any(set(less) <= set(numbers) for less in good):
                        continue
                    if all(told_apart(chosen, *pair) for pair in itertools.combinations(passed, 2)):
                        good.append(numbers)
            told = least_tellers(rng.choice([list, tuple])(talks), passed)
            self.assertEqual(told, tuple(good))
            self.tuples_only(told)
            seen.add(min(len(good), 3))
        self.assertEqual(seen, {0, 1, 2, 3})

    def test_named_edges(self):
        for talks in ([], [PLAIN], SAY):
            self.assertEqual(least_tellers(talks, [STAY]), ((),))
            self.assertEqual(least_tellers(talks, [STAY, STAY]), ((),))
        self.assertEqual(least_tellers([], TONGUES), ())
        self.assertEqual(least_tellers([PLAIN] * 8, [STAY, SHIFT]), ())
        self.assertEqual(least_tellers(SAY, [STAY, SHIFT]), ((0,), (1,), (2,), (3,)))
        self.assertEqual(least_tellers(SAY, TONGUES), ((0, 1, 2, 3),))
        self.assertEqual(least_tellers(SAY + SAY[:1], TONGUES), ((0, 1, 2, 3), (1, 2, 3, 4)))
        every = Talk([report("indirect", come(("I",), ("you",), ("today", 0), ("here",)))])
        self.assertEqual(least_tellers(SAY[:3] + [every] + SAY[3:], TONGUES), ((3,), (0, 1, 2, 4)))


class TellingSituationTest(Case):
    def check(self, talks):
        """Check that what is told parts each two of the sixteen tongues that some talk has unlike forms under."""
        told = telling_situation(talks)
        self.assertIsInstance(told, tuple)
        situation, rows = told
        self.assertIsInstance(situation, Situation)
        self.tuples_only(rows)
        self.assertEqual(len(rows), len(talks))
        for talk, values in zip(talks, rows):
            check_values(talk, values)
        heard = {tongue.shifts: [hear_talk(talk, situation, tongue, values) for talk, values in zip(talks, rows)]
                 for tongue in TONGUES}
        forms = {tongue.shifts: [form_of(talk, tongue) for talk in talks] for tongue in TONGUES}
        for one, other in itertools.combinations(heard, 2):
            self.assertEqual(heard[one] != heard[other], forms[one] != forms[other])

    def test_random_talks(self):
        rng = random.Random(934)
        for _ in range(60):
            self.check([random_talk(rng, rng.randint(1, 4), 2) for _ in range(rng.randint(0, 8))])

    def test_days_that_are_alike_on_some_weekdays(self):
        for inner in (("coming", 3), ("last", 3), ("today", 7), ("today", 0)):
            for outer in (("coming", 3), ("coming", 4), ("last", 3), ("today", 1), ("today", 7), ("date", 0), ("date", 7),
                          ("one day",)):
                self.check([Talk([report("indirect", come(inner), day=outer)])])
                self.check([PLAIN, Talk([report("indirect", report("indirect", come(inner), day=("that day", 1)), day=outer)])])

    def test_names_that_stand_in_the_talks(self):
        for name in ("aaa", "aab", "aac", "aba"):
            self.check([Talk([report("indirect", come(("I",), ("you",), ("here",)), who=("name", name), whom=("name", name),
                                     place=("place", name))])])
            self.check([PLAIN, Talk([report("own", come(), who=("name", name))]), SAY[0], SAY[1], SAY[3]])

    def test_errors(self):
        for thing in (None, True, 3, "", {}, PLAIN, iter([PLAIN]), [PLAIN] * 9):
            self.refused(BadTalks(0), telling_situation, thing)
        for at in range(8):
            self.refused(BadTalks(at), telling_situation, [PLAIN] * at + [come()] + [None] * (7 - at))
        self.check([])
        self.check([PLAIN])


if __name__ == "__main__":
    unittest.main()
