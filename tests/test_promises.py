"""[10.1] to [10.4]: promises, clashes, and whether they are sure."""

import random
import unittest

from tests.helper import SHIFT, STAY, TONGUES, come, samples
from tests.letterkit import NONE, LetterCase, small_letters
from tests.promisekit import first_places, told_clash, told_promise
from whosetomorrow.errors import BadValues, NoPath
from whosetomorrow.facts import Facts
from whosetomorrow.found import Both, FoundLetter, Never, Reading, Sure
from whosetomorrow.promises import clash_case, do_clash, is_promise, promise_case, promise_cases
from whosetomorrow.situations import Situation, Tongue
from whosetomorrow.talks import Plain, Talk
from whosetomorrow.talktext import read_talk
from whosetomorrow.talkways import rows_of

HERE = Situation("ann", "bob", 10, "rome")
PLAIN = Reading(STAY, HERE, ())
D = ("D",)


def letter(text, rows=(), tongues=(STAY,)):
    """Return the letter of a text."""
    return FoundLetter(read_talk(text), tongues, Facts(rows))


class PromiseTest(LetterCase):
    def check(self, text, told, path=(0,), reading=PLAIN):
        self.assertIs(is_promise(read_talk(text), path, reading), told)

    def test_who_says_it_and_when(self):
        for text, told in [
                ("come I today", True), ("come I today+1", True), ("come I today-1", False), ("come you today+1", False),
                ("come @ann today+1", True), ("come @bob today+1", False), ("come I =10", True), ("come I =9", False),
                ("come I coming3", True), ("come I last3", False), ("come today+1 I", True), ("come", False),
                ("come I", False), ("come I here", False), ("come today+1", False), ("come you I today", False),
                ("come I you today-1 today", False), ("come I you today today-1", True), ("come here I today #oslo", True)]:
            self.check(text, told)

    def test_within_reports(self):
        for text, told in [
                ("/@cy @dot today-3 here [come I today]", True), ("/@cy @dot today-3 here [come you today]", False),
                ("/@cy @dot today-3 here [come @ann today]", False), ("/@cy @dot today-3 here [come I today-1]", False),
                ("/@cy @dot today-3 here (come self that)", True), ("/@cy @dot today-3 here (come @cy =7)", True),
                ("/@cy @dot today-3 here (come @cy =6)", False), ("/@cy @dot today-3 here (come I today)", False),
                ("/I @dot today-3 here (come I today)", True), ("/I @dot today+3 here (come I today)", False),
                ("/@cy @dot today-3 here (come self today-3)", True)]:
            self.check(text, told, (0, 0))
        self.check("/@cy @dot today-3 here (come I today)", True, (0, 0), Reading(SHIFT, HERE, ()))

    def test_the_nearest_report_whatever_its_manner(self):
        text = "/@cy @dot today-3 here (/@eve self =3 here (come @cy =5; come self that; go I today))"
        self.check(text, False, (0, 0, 0))
        self.check(text, True, (0, 0, 1))
        self.check(text, False, (0, 0, 2))
        text = "/@cy @dot today-3 here [/@eve I =3 here [come I today; come @cy today]]"
        self.check(text, True, (0, 0, 0))
        self.check(text, False, (0, 0, 1))

    def test_unknown_parts(self):
        text = "/somebody I someday here (come @cy =5)"
        self.check(text, True, (0, 0), Reading(STAY, HERE, (("cy", 0, 5, 0),)))
        self.check(text, False, (0, 0), Reading(STAY, HERE, (("cy", 0, 6, 0),)))
        self.check(text, False, (0, 0), Reading(STAY, HERE, (("dot", 0, 5, 0),)))

    def test_a_report_is_none(self):
        self.check("/I I today here (come I today)", False, (0,))

    def test_errors_in_their_order(self):
        talk = read_talk("come I today; /somebody I today here (come)")
        for path, index in [(None, 0), ((), 0), ((2,), 0), ((0, 0), 1), ((True,), 0), ((1, 0, 0), 2)]:
            self.refused(NoPath(index), is_promise, talk, path, Reading(STAY, HERE, None))
            self.refused(NoPath(index), do_clash, talk, path, None, Reading(STAY, HERE, None))
            self.refused(NoPath(index), do_clash, talk, (0,), path, Reading(STAY, HERE, None))
            found = FoundLetter(talk, [STAY], NONE)
            self.refused(NoPath(index), promise_case, found, path)
            self.refused(NoPath(index), clash_case, found, path, None)
            self.refused(NoPath(index), clash_case, found, [0], path)
        for values in (None, (), ((1, 1, 1, 1),), 3):
            for path in ((0,), (1,), [1, 0]):
                self.refused(BadValues(0), is_promise, talk, path, Reading(STAY, HERE, values))
                self.refused(BadValues(0), do_clash, talk, path, (0,), Reading(STAY, HERE, values))

    def test_against_what_is_heard(self):
        counts = [0, 0]
        for talk, situation, tongue, values in samples(300, 161, 3):
            reading = Reading(tongue, situation, values)
            for path, row in rows_of(talk):
                told = isinstance(row, Plain) and told_promise(talk, path, reading) is not None
                self.assertIs(is_promise(talk, path, reading), told)
                counts[told] += 1
        self.assertGreater(min(counts), 20)


class ClashTest(LetterCase):
    def check(self, text, told, reading=PLAIN):
        talk = read_talk(text)
        self.assertIs(do_clash(talk, (0,), (1,), reading), told)
        self.assertIs(do_clash(talk, [1], [0], reading), told)

    def test_named_cases(self):
        for text, told in [
                ("come I today here; go I today #oslo", True), ("come I today here; go @ann =10 #oslo", True),
                ("come I today here; go I today #rome", False), ("come I today here; go you today #oslo", False),
                ("come I today here; go I today-1 #oslo", False), ("come I today; go I today #oslo", False),
                ("come I here; go I today #oslo", False), ("come today here; go I today #oslo", False),
                ("come I today here; /I I today #oslo [come I today #oslo]", False), ("come #oslo =3 you; go =3 here @bob", True),
                ("come I you today here; go I today-0 #oslo".replace("-0", ""), True)]:
            self.check(text, told)
        talk = read_talk("come I today here; /I I today-1 #oslo [go I today+1 here]")
        self.assertIs(do_clash(talk, (0,), (1, 0), PLAIN), True)
        self.assertIs(do_clash(talk, (0,), (0,), PLAIN), False)

    def test_against_what_is_heard(self):
        rng = random.Random(162)
        found = 0
        for _ in range(400):
            rows = [Plain("come", [rng.choice([("I",), ("you",), ("name", "ann")]),
                                   rng.choice([("today", 0), ("date", 10), ("coming", 3), ("date", 17)]),
                                   rng.choice([("here",), ("place", "rome"), ("place", "oslo")])][:rng.choice([2, 3, 3])])
                    for _ in range(2)]
            talk = Talk(rows)
            self.assertEqual(do_clash(talk, (0,), (1,), PLAIN), told_clash(talk, (0,), (1,), PLAIN))
            found += told_clash(talk, (0,), (1,), PLAIN)
        self.assertGreater(found, 10)


class CaseTest(LetterCase):
    def test_promises_for_today_later_and_earlier(self):
        self.assertEqual(promise_case(letter("come I today"), (0,)), Sure())
        self.assertEqual(promise_case(letter("come I coming3"), [0]), Sure())
        self.assertEqual(promise_case(letter("come I today-1"), (0,)), Never())
        self.assertIsInstance(promise_case(letter("come I =3"), (0,)), Both)
        self.assertEqual(promise_case(letter("come I =3", [("between", ("date", 3), D, None, 0)]), (0,)), Sure())
        self.assertEqual(promise_case(letter("come I =3", [("between", ("date", 3), D, 1, None)]), (0,)), Never())
        self.assertIsInstance(promise_case(letter("come you today"), (0,)), Both)
        self.assertEqual(promise_case(letter("come you today", [("same", ("H",), ("T",))]), (0,)), Sure())
        self.assertEqual(promise_case(letter("come you today", [("unlike", ("H",), ("T",))]), (0,)), Never())
        self.assertEqual(promise_case(letter("come you today-1", [("same", ("H",), ("T",))]), (0,)), Never())
        for text in ("come I", "come today", "come", "/I I today here [come I today]"):
            self.assertEqual(promise_case(letter(text), (0,)), Never())

    def test_unlike_tongues(self):
        text = "/@cy @dot today here (come I that)"
        found = letter(text, [("unlike", ("T",), ("name", "cy"))], [STAY, SHIFT])
        case = promise_case(found, (0, 0))
        self.assertEqual((case.yes.tongue, case.no.tongue), (SHIFT, STAY))
        self.assertEqual(promise_case(letter(text, [("unlike", ("T",), ("name", "cy"))], [STAY]), (0, 0)), Never())
        self.assertEqual(promise_case(letter(text, [], [SHIFT]), (0, 0)), Sure())
        self.assertEqual(promise_case(letter(text, [("same", ("T",), ("name", "cy"))], TONGUES), (0, 0)), Sure())

    def test_clashes(self):
        text = "come I today here; go I today #oslo"
        self.assertIsInstance(clash_case(letter(text), (0,), (1,)), Both)
        self.assertEqual(clash_case(letter(text, [("unlike", ("Z",), ("place", "oslo"))]), (0,), [1]), Sure())
        self.assertEqual(clash_case(letter(text, [("same", ("Z",), ("place", "oslo"))]), (0,), (1,)), Never())
        self.assertEqual(clash_case(letter("come I today here; go I today+1 #oslo"), (0,), (1,)), Never())
        self.assertEqual(clash_case(letter("come I today here; go I today here"), (0,), (1,)), Never())
        self.assertEqual(clash_case(letter("come I today #a; go I today #oslo"), (0,), (1,)), Sure())
        self.assertIsInstance(clash_case(letter("come I coming3 #a; go you =3 #oslo"), (0,), (1,)), Both)
        self.assertEqual(clash_case(letter("come I coming3 #a; go you =4 #oslo"), (0,), (1,)), Never())
        # They clash, unless it is another day, or another person, alone.
        self.assertIsInstance(clash_case(letter("come I coming3 #a; go I =3 #oslo"), (0,), (1,)), Both)
        self.assertIsInstance(clash_case(letter("come I today #a; go you today #oslo"), (0,), (1,)), Both)
        self.assertEqual(clash_case(letter("come I today; go I today #oslo"), (0,), (1,)), Never())
        self.assertEqual(clash_case(letter("come I today #a; /I I today #oslo [go]"), (1,), (0,)), Never())
        self.assertEqual(clash_case(letter("come I today #a"), (0,), (0,)), Never())
        # That the one place is unlike the other is known of no place by name.
        found = letter("come I =3 here; /@cy I =3 somewhere (go I =3 there)", [("unlike", ("Z",), ("where", 0))])
        self.assertEqual(clash_case(found, (0,), (1, 0)), Sure())

    def test_promises_against_all_readings(self):
        kinds = []
        for _, found, readings in small_letters(34, 163):
            cases = []
            for path, row in rows_of(found.talk):
                places = first_places(found.talk, path)
                case = promise_case(found, path)
                if isinstance(row, Plain):
                    cases.append((path, case))
                if "person" not in places or "day" not in places:
                    self.assertEqual(case, Never())
                    continue
                asked = self.asked_of(path, places)
                self.check_case(
                    found, case, lambda reading: told_promise(found.talk, path, reading) is not None,
                    readings.can_all(asked), readings.can_fail(asked))
                kinds.append(type(case))
            listed = list(promise_cases(found))
            self.assertEqual([path for path, _ in listed], [path for path, _ in cases])
            for (_, one), (_, other) in zip(listed, cases):
                self.assertIs(type(one), type(other))
        self.assertTrue(min(kinds.count(kind) for kind in (Sure, Never, Both)) > 3)

    def asked_of(self, path, places):
        """Return what is asked of persons and of days by a promise."""
        person, day = (path, places["person"]), (path, places["day"])
        if len(path) == 1:
            return [("person", lambda roots, told: told[person] == ("name", roots[("T",)])),
                    ("day", lambda roots, told: told[day][1] >= roots[D])]
        who, said_on = (path[:-1], 0), (path[:-1], 2)
        return [("person", lambda roots, told: told[person] == told[who]),
                ("day", lambda roots, told: told[day][1] >= told[said_on][1])]

    def test_clashes_against_all_readings(self):
        kinds = []
        for _, found, readings in small_letters(60, 164):
            rows = [path for path, row in rows_of(found.talk) if len(first_places(found.talk, path)) == 3]
            for path in rows:
                for other in rows:
                    if path == other:
                        continue
                    one, two = first_places(found.talk, path), first_places(found.talk, other)
                    asked = [(kind, self.alike(path, other, one[kind], two[kind], kind != "place"))
                             for kind in ("person", "day", "place")]
                    case = clash_case(found, path, other)
                    self.check_case(
                        found, case, lambda reading: told_clash(found.talk, path, other, reading),
                        readings.can_all(asked), readings.can_fail(asked))
                    kinds.append(type(case))
        self.assertTrue({Never, Both} <= set(kinds))

    def alike(self, path, other, index, other_index, wanted):
        """Return the test that two words mean the same, or that they do not."""
        return lambda roots, told: (told[path, index] == told[other, other_index]) == wanted

    def test_the_order_of_the_generator(self):
        found = letter("come I today; /@a @b =2 here [go; /@c @d =3 here (go self that); come I today-1]; come")
        self.assertEqual(list(promise_cases(found)), [
            ((0,), Sure()), ((1, 0), Never()), ((1, 1, 0), Sure()), ((1, 2), Never()), ((2,), Never())])
        self.assertEqual(list(promise_cases(FoundLetter(Talk([come()]), [Tongue(True, True, True, True)], NONE))), [((0,), Never())])


if __name__ == "__main__":
    unittest.main()
