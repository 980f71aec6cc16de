"""[9.8] to [9.11]: clues, what they settle, and the least sets of them."""

import itertools
import random
import unittest

from tests.helper import STAY, TONGUES
from tests.letterkit import NONE, LetterCase, heard_in, small_letter, small_letters
from whosetomorrow.clues import Unsettled, clue_answer, least_clues, unsettled_by
from whosetomorrow.errors import BadClue, BadValues, NoPath
from whosetomorrow.facts import Facts
from whosetomorrow.found import FoundLetter, Reading
from whosetomorrow.foundrange import sure_meaning
from whosetomorrow.situations import Situation, Tongue
from whosetomorrow.talktext import read_talk
from whosetomorrow.talkways import words_of
from whosetomorrow.words import find_kind

D = ("D",)
HERE = Situation("ann", "bob", 10, "rome")
ROWS = (("aa", "bb", 3, "cc"), ("dd", "ee", -1, "ff"))
CLUES = [
    ("tongue",), ("person", ("T",)), ("person", ("H",)), ("person", ("who", 0)), ("person", ("whom", 0)),
    ("place", ("Z",)), ("place", ("where", 0)), ("weekday", D), ("weekday", ("day", 0)), ("date", D), ("date", ("day", 0)),
]
NO_CLUES = [
    None, (), "tongue", ["tongue"], ("tongue", D), ("person",), ("person", ("name", "ann")), ("person", ("Z",)),
    ("person", ("who", 12)), ("person", ("who", -1)), ("person", ("who", True)), ("person", ["T"]), ("person", ("T", 0)),
    ("place", ("place", "rome")), ("place", ("T",)), ("place", ("where", 12)), ("place", ("here",)), ("weekday", ("date", 3)),
    ("weekday", ("day", 12)), ("weekday", ("day", False)), ("weekday", 3), ("date", ("date", 3)), ("date", ("T",)),
    ("date", ("sevens", D, (0,) * 7)), ("day", ("sevens", D, (0,) * 7)), ([], D), ({},), ("date", D, 1), ("day", D), ("name", ("T",)), (("tongue",),), 3, object(), ["date", D],
    ("who", 0), ("T",), (None, D),
]


def letter(text, rows=(), tongues=(STAY,)):
    """Return the letter of a text."""
    return FoundLetter(read_talk(text), tongues, Facts(rows))


class AnswerTest(LetterCase):
    def test_each_clue(self):
        reading = Reading(STAY, HERE, ROWS)
        for clue, answer in [
                (("tongue",), STAY), (("person", ("T",)), ("name", "ann")), (("person", ("H",)), ("name", "bob")),
                (("person", ("who", 1)), ("name", "dd")), (("person", ("whom", 0)), ("name", "bb")),
                (("place", ("Z",)), ("place", "rome")), (("place", ("where", 1)), ("place", "ff")), (("weekday", D), 3),
                (("weekday", ("day", 1)), 6), (("date", D), ("date", 10)), (("date", ("day", 1)), ("date", -1))]:
            self.assertEqual(clue_answer(clue, reading), answer)

    def test_no_clue_then_no_value(self):
        reading = Reading(STAY, HERE, ROWS)
        for no in NO_CLUES:
            self.refused(BadClue(0), clue_answer, no, reading)
        for clue in (("person", ("who", 2)), ("person", ("whom", 2)), ("place", ("where", 2)), ("weekday", ("day", 2)),
                     ("date", ("day", 2))):
            self.refused(BadValues(2), clue_answer, clue, reading)
            self.refused(BadValues(2), clue_answer, clue, Reading(STAY, HERE, ROWS + ((1, 1, None, 1),)))
            self.refused(BadValues(2), clue_answer, clue, Reading(STAY, HERE, None))
        self.assertEqual(clue_answer(("person", ("who", 0)), Reading(STAY, HERE, [("aa", 1, 1, 1)])), ("name", "aa"))


class UnsettledTest(LetterCase):
    def test_what_is_given_is_kept(self):
        self.assertEqual(vars(Unsettled(1, [2])), {"one": 1, "other": [2]})
        self.equal_only((Unsettled(1, 2), Unsettled(1, 2)), [Unsettled(2, 1), Unsettled(1, 1), (1, 2)])

    def test_errors_in_their_order(self):
        found = letter("come I today")
        for function in (unsettled_by, least_clues):
            for path, index, wrong in [(None, 0, 0), ((1,), 0, 0), ((0,), 2, 1), ((0,), True, 1)]:
                self.refused(NoPath(wrong), function, found, path, index, None)
            for no in (None, "tongue", {}, 3, CLUES[:5], NO_CLUES[:5], {("tongue",)}):
                self.refused(BadClue(0), function, found, (0,), 0, no)
            for no in NO_CLUES:
                self.refused(BadClue(2), function, found, (0,), 0, [("tongue",), ("date", D), no, None])

    def check_unsettled(self, found, path, index, clues, unsettled):
        """Check that two readings show that clues do not settle a word."""
        self.assertIsInstance(unsettled, Unsettled)
        for reading in (unsettled.one, unsettled.other):
            self.check_reading(found, reading)
        for clue in clues:
            self.assertEqual(clue_answer(clue, unsettled.one), clue_answer(clue, unsettled.other))
        self.assertNotEqual(
            self.meaning_in(found, path, index, unsettled.one), self.meaning_in(found, path, index, unsettled.other))

    def test_the_example(self):
        found = letter("come today+1; come coming0", [("between", ("date", 0), D, 3, 6)], TONGUES)
        clues = (("weekday", D), ("date", D))
        self.assertEqual(least_clues(found, (0,), 0, clues), ((0,), (1,)))
        self.assertEqual(least_clues(found, (1,), 0, list(clues)), ((),))
        self.assertIsNone(unsettled_by(found, (0,), 0, [("weekday", D)]))
        self.check_unsettled(found, (0,), 0, (), unsettled_by(found, (0,), 0, []))

    def test_named_cases(self):
        text = "/somebody I someday somewhere (come self told that there)"
        found = letter(text)
        self.assertIsNone(unsettled_by(found, (0, 0), 0, [("person", ("who", 0))]))
        self.assertIsNone(unsettled_by(found, (0, 0), 1, [("person", ("T",))]))
        self.assertIsNone(unsettled_by(found, (0, 0), 2, [("date", ("day", 0))]))
        self.assertIsNone(unsettled_by(found, (0, 0), 3, [("place", ("where", 0))]))
        for index, clues in [(0, [("person", ("T",)), ("person", ("whom", 0))]), (1, [("person", ("whom", 0))]),
                             (2, [("date", D), ("weekday", ("day", 0))]), (3, [("place", ("Z",)), ("tongue",)])]:
            self.check_unsettled(found, (0, 0), index, clues, unsettled_by(found, (0, 0), index, clues))
        self.assertEqual(least_clues(found, (0, 0), 3, [("place", ("Z",)), ("tongue",)]), ())
        self.assertEqual(least_clues(found, (0, 0), 3, []), ())
        self.assertEqual(least_clues(letter("come @ann"), (0,), 0, []), ((),))

    def test_facts_lead_from_one_person_to_another(self):
        facts = [("same", ("T",), ("who", 5)), ("same", ("who", 5), ("whom", 9))]
        found = letter("come I", facts)
        clues = [("person", ("H",)), ("person", ("whom", 9)), ("person", ("who", 5)), ("person", ("who", 4))]
        self.assertEqual(least_clues(found, (0,), 0, clues), ((1,), (2,)))
        # That the teller is not Bob tells nothing of who it is.
        found = letter("come I", [("unlike", ("T",), ("H",))])
        self.assertEqual(least_clues(found, (0,), 0, [("person", ("H",)), ("tongue",)]), ())

    def test_the_tongue(self):
        tongues = [STAY, Tongue(True, False, False, False)]
        text = "/@ann @bob =3 #rome (come I)"
        found = letter(text, [("same", ("T",), ("name", "cy"))], tongues)
        self.assertEqual(least_clues(found, (0, 0), 0, [("person", ("T",)), ("tongue",)]), ((1,),))
        found = letter(text, [], tongues)
        self.assertEqual(least_clues(found, (0, 0), 0, [("person", ("T",)), ("tongue",)]), ((0, 1),))
        # If the teller is Ann, the tongue does not matter.
        found = letter(text, [("same", ("T",), ("name", "ann"))], tongues)
        self.assertEqual(least_clues(found, (0, 0), 0, [("person", ("T",)), ("tongue",)]), ((),))

    def test_a_tongue_and_one_word_in_two_ways(self):
        # Which of the two days tomorrow is counted from is told by the tongue alone.
        tongues = [STAY, Tongue(False, False, True, False)]
        found = letter("/@ann @bob someday #rome (come today+1)", [("between", D, ("day", 0), 0, 7)], tongues)
        clues = [("date", D), ("date", ("day", 0)), ("tongue",), ("weekday", D)]
        same = letter("/@ann @bob someday #rome (come today+1)", [("between", D, ("day", 0), 0, 0)], tongues)
        self.assertEqual(least_clues(same, (0, 0), 0, clues), ((0,), (1,)))
        self.assertEqual(least_clues(found, (0, 0), 0, clues), ((0, 1, 2),))

    def test_two_weekdays(self):
        facts = [("between", D, ("day", 0), 0, 13), ("between", ("date", 0), D, 0, 6)]
        found = letter("/@a @b someday here [come today]", facts)
        clues = [("weekday", D), ("weekday", ("day", 0)), ("date", ("day", 0))]
        self.assertEqual(least_clues(found, (0, 0), 0, clues), ((2,),))
        near = letter("/@a @b someday here [come today]", [("between", D, ("day", 0), 0, 6), facts[1]])
        self.assertEqual(least_clues(near, (0, 0), 0, clues), ((2,), (0, 1)))

    def test_a_saw_is_settled_by_less(self):
        found = letter("come coming3", [("between", ("date", 0), D, 0, 8)])
        self.assertEqual(least_clues(found, (0,), 0, [("weekday", D), ("date", D)]), ((1,),))
        found = letter("come coming3", [("between", ("date", 0), D, 0, 6)])
        self.assertEqual(least_clues(found, (0,), 0, [("weekday", D), ("date", D)]), ((0,), (1,)))
        found = letter("come coming3", [("between", ("date", 3), D, 0, 6)])
        self.assertEqual(least_clues(found, (0,), 0, [("weekday", D), ("date", D)]), ((),))

    def told_pairs(self, readings, path, index, clues):
        """Tell whether in any two readings with the same answers a word means the same."""
        kind = [kind for kind in readings.places if (path, index) in readings.places[kind]][0]
        heads = {"person": ["person"], "day": ["weekday", "date"], "place": ["place"]}[kind]
        meanings = {}
        for tongue, roots, told in readings.told[kind]:
            answers = [tongue.shifts if ("tongue",) in clues else None]
            for clue in clues:
                if clue[0] in heads:
                    answers.append(roots[clue[1]] % 7 if clue[0] == "weekday" else roots[clue[1]])
            meanings.setdefault(tuple(answers), set()).add(told[path, index])
        return all(len(found) == 1 for found in meanings.values())

    def test_against_all_readings(self):
        counts = [0, 0]
        sizes = set()
        for rng, found, readings in small_letters(24, 151, tongues=2):
            for path, index, word in words_of(found.talk):
                heads = {"person": CLUES[1:5], "day": CLUES[7:], "place": CLUES[5:7]}[find_kind(word)]
                clues = rng.sample(heads, min(len(heads), rng.randint(1, 3)))
                clues = rng.sample(clues + [("tongue",)], len(clues) + rng.randint(0, 1))
                settled = self.told_pairs(readings, path, index, clues)
                unsettled = unsettled_by(found, path, index, clues)
                self.assertEqual(unsettled is None, settled, (path, index, clues))
                counts[settled] += 1
                if unsettled is not None:
                    self.check_unsettled(found, path, index, clues, unsettled)
                tried = []
                for size in range(len(clues) + 1):
                    for numbers in itertools.combinations(range(len(clues)), size):
                        if not any(set(less) <= set(numbers) for less in tried):
                            if self.told_pairs(readings, path, index, [clues[number] for number in numbers]):
                                tried.append(numbers)
                found_least = least_clues(found, path, index, clues)
                self.assertEqual(found_least, tuple(tried))
                sizes |= {len(numbers) for numbers in found_least} | ({None} if not found_least else set())
        self.assertTrue(min(counts) > 20, counts)
        self.assertTrue({None, 0, 1, 2} <= sizes, sizes)

    def test_no_clues_at_all(self):
        rng = random.Random(152)
        for _ in range(30):
            found = small_letter(rng)
            for path, index, _ in words_of(found.talk):
                self.assertEqual(unsettled_by(found, path, index, ()) is None, sure_meaning(found, path, index) is not None)
        self.assertEqual(heard_in(read_talk("come"), Reading(STAY, HERE, ())), (("plain", "come", ()),))
        self.assertEqual(len(NONE), 0)


if __name__ == "__main__":
    unittest.main()
