"""[8.6]: tellings, strangers, late reports."""

import random
import unittest

from tests.helper import NO_WHOLES, SHIFT, STAY, Case, random_situation, random_values, samples, told_talk
from tests.talkkit import heard_row, many_situations
from whosetomorrow.errors import BadValues, NoPath
from whosetomorrow.passing import first_late, first_stranger, is_passed_on, tellings_of
from whosetomorrow.situations import Situation
from whosetomorrow.talktext import read_talk
from whosetomorrow.talkways import check_values, report_paths, rows_of

HERE = Situation("ann", "bob", 10, "rome")


def told_tellings(heard, path, situation):
    """Return the tellings on the way to a row of what is heard."""
    found = [(("name", situation.teller), ("name", situation.hearer), ("date", situation.day), ("place", situation.place))]
    for depth in range(1, len(path)):
        found.append(heard_row(heard, path[:depth])[1:5])
    return tuple(found)


def heard_strangely(heard, path, situation):
    """Tell whether the whom of the report at a path is not the one who tells it."""
    return heard_row(heard, path)[2] != told_tellings(heard, path, situation)[-1][0]


def heard_late(heard, path, situation):
    """Tell whether the day of the report at a path is behind the day on which it is told."""
    return heard_row(heard, path)[3][1] > told_tellings(heard, path, situation)[-1][2][1]


class TellingsTest(Case):
    def test_an_example(self):
        talk = read_talk("/@cy I today-1 here [/@dot I today-2 #oslo (come)]")
        outer = (("name", "ann"), ("name", "bob"), ("date", 10), ("place", "rome"))
        first = (("name", "cy"), ("name", "ann"), ("date", 9), ("place", "rome"))
        self.assertEqual(tellings_of(talk, (0,), HERE, STAY), (outer,))
        self.assertEqual(tellings_of(talk, [0, 0], HERE, STAY), (outer, first))
        self.assertEqual(tellings_of(talk, (0, 0, 0), HERE, STAY), (
            outer, first, (("name", "dot"), ("name", "cy"), ("date", 7), ("place", "oslo"))))

    def test_errors_in_their_order(self):
        talk = read_talk("come; /somebody I today-1 here [come]")
        for path, index in [(None, 0), ((), 0), ((2,), 0), ((0, 0), 1), ((True,), 0), ((1, 0, 0), 2)]:
            self.refused(NoPath(index), tellings_of, talk, path, HERE, STAY, None)
        for values in (None, (), [(1, 1, 1, 1)]):
            self.refused(BadValues(0), tellings_of, talk, (0,), HERE, STAY, values)
        self.refused(BadValues(0), tellings_of, talk, (1, 0), HERE, STAY)
        for no in NO_WHOLES:
            self.refused(NoPath(0), tellings_of, talk, (no,), HERE, STAY)

    def test_against_what_is_heard(self):
        for talk, situation, tongue, values in samples(150, 121):
            heard = told_talk(talk, situation, tongue, values)
            for path, _ in rows_of(talk):
                found = tellings_of(talk, path, situation, tongue, values)
                self.assertEqual(found, told_tellings(heard, path, situation))
                self.tuples_only(found)


class StrangerTest(Case):
    def shows(self, talk, tongue, found, wrong):
        """Check that a result shows the first report that is wrong."""
        path, situation, values = found
        check_values(talk, values)
        self.assertIsInstance(situation, Situation)
        heard = told_talk(talk, situation, tongue, values)
        self.assertTrue(wrong(heard, path, situation))
        self.assertIsInstance(found, tuple)
        self.tuples_only(values)
        self.assertIsInstance(path, tuple)

    def test_what_was_heard_by_the_teller(self):
        for text in [
                "come", "/@cy I today here (come)", "/@cy I someday here [/@dot I =3 here (/@eve self =3 here [come])]",
                "/@cy I today here (/@dot @cy today here (come))", "/somebody I today here [/@cy I today here [come]]"]:
            self.assertIsNone(first_stranger(read_talk(text), STAY))

    def test_strangers(self):
        for text, path in [
                ("/@cy @ann today here (come)", (0,)), ("/@cy you today here (come)", (0,)),
                ("/@cy somebody today here (come)", (0,)),
                ("come; /@cy I someday here [/@dot @eve =3 here (come); /@dot you =3 here [come]]", (1, 0)),
                ("/somebody I today here [/@cy somebody today here [come]]", (0, 0)),
                ("/@cy I today here (/@dot told today here (come))", (0, 0))]:
            found = first_stranger(read_talk(text), STAY)
            self.assertEqual(found[0], path)
            self.shows(read_talk(text), STAY, found, heard_strangely)
        talk = read_talk("/@cy I today here (/@dot I today here (come))")
        self.assertEqual(first_stranger(talk, STAY)[0], (0, 0))
        self.assertIsNone(first_stranger(talk, SHIFT))

    def test_late_ones(self):
        for text, path in [
                ("come", None), ("/@cy I today here (come)", None), ("/@cy I today-1 here (come)", None),
                ("/@cy I today+1 here (come)", (0,)), ("/@cy I coming3 here (come)", (0,)),
                ("/@cy I last3 here (come)", None), ("/@cy I =3 here (come)", (0,)),
                ("/@cy I someday here (come)", (0,)), ("/@cy I =3 here [/@dot I =3 here (come)]", None),
                ("/@cy I =3 here [/@dot I =2 here (come)]", (0,))]:
            talk = read_talk(text)
            found = first_late(talk, STAY)
            if path is None and found is not None:
                self.assertEqual(found[0], (0,))
            elif path is None:
                self.assertIsNone(found)
            else:
                self.assertEqual(found[0], path)
                self.shows(talk, STAY, found, heard_late)

    def test_days_with_one_root_at_some_rest(self):
        # From the coming Monday the last Thursday is behind today on three of the seven days.
        for text, late in [
                ("/@cy I last0 here [/@dot I last4 here (come)]", False),
                ("/@cy I last0 here [/@dot I coming4 here (come)]", True),
                ("/@cy I last0 here (/@dot self today here (come))", True),
                ("/@cy I last0 here (/@dot self today-6 here (come))", True),
                ("/@cy I last0 here (/@dot self today-7 here (come))", False),
                ("/@cy I last0 here (/@dot self last0 here (come))", False),
                ("/@cy I last0 here (/@dot self last1 here (come))", True),
                ("/@cy I last0 here (/@dot self that here (come))", False),
                ("/@cy I last0 here (/@dot self thatday here (come))".replace("thatday", "that+1"), True)]:
            talk = read_talk(text)
            found = first_late(talk, STAY)
            self.assertEqual(found is not None, late, text)
            if late:
                self.assertEqual(found[0], (0, 0))
                self.shows(talk, STAY, found, heard_late)

    def test_days_late_at_one_rest_alone(self):
        for w in range(7):
            talk = read_talk(f"/@cy I last{w} here (/@dot self today-6 here (come))")
            found = first_late(talk, STAY)
            self.assertEqual((found[0], found[1].day % 7), ((0, 0), w))
            self.shows(talk, STAY, found, heard_late)

    def test_days_with_unlike_roots(self):
        for text, path in [
                ("/@cy I someday here [/@dot I =3 here (come)]", (0,)),
                ("/@cy I today here (/@dot self =3 here (come))", (0, 0)),
                ("/@cy I today here (/@dot self someday here (come))", (0, 0)),
                ("/@cy I today-30 here (/@dot self thenlast3 here (/@eve I someday here [come]))", (0, 0, 0))]:
            found = first_late(read_talk(text), STAY)
            self.assertEqual(found[0], path)
            self.shows(read_talk(text), STAY, found, heard_late)
        talk = read_talk("/@cy I last1 here [/@dot I today-30 here (/@eve self =500 here (come))]")
        found = first_late(talk, STAY)
        self.assertEqual(found[0], (0, 0, 0))
        self.shows(talk, STAY, found, heard_late)

    def test_against_many_situations(self):
        rng = random.Random(122)
        counts = [0, 0, 0]
        for talk, _, tongue, _ in samples(250, 123):
            seen = []
            for situation, values in many_situations(rng, 9) + [
                    (random_situation(rng), random_values(rng, talk)) for _ in range(20)]:
                seen.append((situation, told_talk(talk, situation, tongue, values)))
            for at, (function, wrong) in enumerate([(first_stranger, heard_strangely), (first_late, heard_late)]):
                found = function(talk, tongue)
                if found is not None:
                    self.shows(talk, tongue, found, wrong)
                    counts[at] += 1
                for path in report_paths(talk):
                    if found is not None and path == found[0]:
                        break
                    for situation, heard in seen:
                        self.assertFalse(wrong(heard, path, situation))
            passed = first_stranger(talk, tongue) is None and first_late(talk, tongue) is None
            self.assertIs(is_passed_on(talk, tongue), passed)
            counts[2] += passed
        self.assertTrue(min(counts) > 10, counts)

    def test_passed_on(self):
        self.assertIs(is_passed_on(read_talk("/@cy I today-1 here (/@dot self that-2 here (come))"), STAY), True)
        self.assertIs(is_passed_on(read_talk("/@cy I today-1 here (/@dot self that+1 here (come))"), STAY), False)
        self.assertIs(is_passed_on(read_talk("/@cy I today-1 here (/@dot I that-1 here (come))"), STAY), False)


if __name__ == "__main__":
    unittest.main()
