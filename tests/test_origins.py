"""[8.3], [8.4]: days leading to a term, and origins."""

import random
import unittest

from tests.helper import SHIFT, STAY, TONGUES, Case, come, report, told_talk
from tests.talkkit import heard_row, many_situations, talks_with_reports
from whosetomorrow.errors import BadOrigin, BadSevens, BadTerm, NoPath
from whosetomorrow.firstwords import count_first_talks, first_talk_at
from whosetomorrow.hearing import hear_talk, said_alone, situation_within
from whosetomorrow.origins import Origins, days_leading_to, is_origin, origins_of
from whosetomorrow.sevens import even_sevens, saw_sevens
from whosetomorrow.situations import Situation
from whosetomorrow.talks import Plain, Talk
from whosetomorrow.talktext import read_talk
from whosetomorrow.talkways import places_in, names_in, report_number, row_at, with_word, words_of
from whosetomorrow.terms import day_plus, value_of

D = ("D",)


def even(k, root=D):
    """Return the day term k days behind a root."""
    return ("sevens", root, even_sevens(k))


def saw(w, m, root=D):
    """Return the day term of the first weekday w behind root + m."""
    return ("sevens", root, saw_sevens(w, m))


def lead(x, sevens, day):
    """Return the day to which sevens lead from a day term if its root has this day."""
    start = x[1] if x[0] == "date" else day + x[2][day % 7]
    return start + sevens[start % 7]


def day_value(term, day):
    """Return the day of a day term if its root has this day."""
    return term[1] if term[0] == "date" else day + term[2][day % 7]


def tried_days(sevens, term):
    """Return the day terms near it from which sevens lead to a term, found by trying."""
    if term[0] == "date":
        near = [("date", n) for n in range(term[1] - 60, term[1] + 60)]
    else:
        near = [even(k, term[1]) for k in range(-60, 60)]
        near += [saw(w, m, term[1]) for w in range(7) for m in range(-60, 60)]
    return [x for x in near if all(lead(x, sevens, day) == day_value(term, day) for day in range(7))]


class LeadingTest(Case):
    def test_even_sevens(self):
        self.assertEqual(days_leading_to(even_sevens(3), ("date", 10)), (("date", 7),))
        self.assertEqual(days_leading_to(even_sevens(-3), even(2, ("day", 4))), (even(5, ("day", 4)),))
        self.assertEqual(days_leading_to(even_sevens(3), saw(2, 5)), (saw(6, 2),))

    def test_saws_to_a_date(self):
        self.assertEqual(days_leading_to(saw_sevens(3, 0), ("date", 10)), tuple(("date", n) for n in range(3, 10)))
        self.assertEqual(days_leading_to(saw_sevens(3, -8), ("date", 10)), tuple(("date", n) for n in range(11, 18)))
        self.assertEqual(days_leading_to(saw_sevens(4, 0), ("date", 10)), ())

    def test_saws_to_day_terms(self):
        for root in (D, ("day", 0), ("day", 11)):
            for k in range(-7, 14):
                self.assertEqual(days_leading_to(saw_sevens(3, 2), even(k, root)), ())
            self.assertEqual(days_leading_to(saw_sevens(3, 2), saw(4, 2, root)), ())
            self.assertEqual(days_leading_to(saw_sevens(3, 2), saw(3, 6, root)), (
                even(4, root), saw(1, -3 + 0, root), saw(2, -2, root), saw(3, -1, root), saw(4, 0, root),
                saw(5, 1, root), saw(6, 2, root), saw(0, 3, root)))

    def test_against_trying(self):
        rng = random.Random(101)
        for _ in range(30):
            sevens = rng.choice([even_sevens(rng.randint(-9, 9)), saw_sevens(rng.randint(0, 6), rng.randint(-9, 9))])
            root = rng.choice([D, ("day", rng.randint(0, 11))])
            weekday = sevens[0] % 7 if len(set(sevens)) > 1 and rng.random() < 0.7 else rng.randint(0, 6)
            term = rng.choice([("date", rng.randint(-3, 3) * 7 + weekday), even(4, root), saw(weekday, rng.randint(-9, 9), root)])
            found = days_leading_to(sevens, term)
            self.assertEqual(sorted(map(repr, found)), sorted(map(repr, tried_days(sevens, term))))
            self.tuples_only(found)

    def test_errors_in_their_order(self):
        for no in (None, [0] * 7, (0,) * 6, (0,) * 8, (True,) * 7, (0, 0, 0, 0, 0, 0, 1), "0000000", 3):
            self.refused(BadSevens(), days_leading_to, no, None)
        for no in (
                None, ("T",), ("name", "ann"), ("place", "rome"), ("where", 1), ("date", True), ["date", 1], ("D",),
                ("sevens", ("day", 12), even_sevens(0)), ("sevens", ("who", 1), even_sevens(0)), ("day", 1)):
            self.refused(BadTerm(), days_leading_to, even_sevens(0), no)
            self.refused(BadTerm(), days_leading_to, saw_sevens(3, 0), no)


TOLD = read_talk("/@cy I today-1 #rome [come I today+1 here; go you coming2]; /@eve somebody someday #oslo (go told; "
                 "/somebody self that there (come I you today here))")


class ResultTest(Case):
    def test_what_is_given_is_kept(self):
        days = [1]
        self.assertIs(Origins(1, 2, days, None).days, days)
        one = Origins((("T",),), None, (even(0),), (("Z",),))
        self.equal_only((one, Origins((("T",),), None, (even(0),), (("Z",),))), [
            Origins((("H",),), None, (even(0),), (("Z",),)), Origins((("T",),), (), (even(0),), (("Z",),)),
            Origins((("T",),), None, None, (("Z",),)), Origins((("T",),), None, (even(0),), None)])


class OriginsTest(Case):
    def test_an_own_report_said_alone(self):
        alone = said_alone(TOLD, (0,))
        self.assertEqual(origins_of(TOLD, (0,), alone, STAY), Origins(
            (("name", "cy"),), (("T",),), (even(-1),), (("place", "rome"),)))
        self.assertEqual(origins_of(TOLD, [0], read_talk("come @cy today+1 #rome; go you =3"), STAY), None)
        first = read_talk("come @cy today+1 here; go you coming2")
        self.assertEqual(origins_of(TOLD, (0,), first, STAY).tellers, None)

    def test_parts_to_which_the_first_talk_does_not_look(self):
        talk = Talk([report("own", come(("name", "cy"), ("date", 4)), come(("place", "rome")))])
        found = origins_of(talk, (0,), said_alone(talk, (0,)), SHIFT)
        self.assertEqual(found, Origins(None, None, None, None))
        self.assertTrue(is_origin(talk, (0,), said_alone(talk, (0,)), SHIFT, (("H",), ("who", 0), saw(3, 50), ("Z",))))

    def test_days_where_several_words_must_agree(self):
        talk = read_talk("/@cy I =10 here [go coming3 last5]")
        alone = said_alone(talk, (0,))
        told = [day for day in range(3, 17) if Situation("a", "b", day, "c") and all(
            hear_talk(alone, Situation("a", "b", day, "c"), STAY)[0][2] == told_talk(
                talk, Situation("a", "b", 0, "c"), STAY)[0][6][0][2] for _ in (0,))]
        self.assertEqual(origins_of(talk, (0,), alone, STAY).days, tuple(("date", day) for day in told))
        self.assertEqual(len(told), 3)
        talk = read_talk("/@cy I today here [go coming3; go coming3 coming3]")
        self.assertEqual(len(origins_of(talk, (0,), said_alone(talk, (0,)), STAY).days), 8)
        talk = read_talk("/@cy I today here [go coming3; go today]")
        self.assertEqual(origins_of(talk, (0,), said_alone(talk, (0,)), STAY).days, (even(0),))
        talk = read_talk("/@cy I today here [go coming3]")
        self.assertIsNone(origins_of(talk, (0,), read_talk("go coming4"), STAY))
        self.assertIsNone(origins_of(talk, (0,), read_talk("go =4"), STAY))

    def test_the_order_is_that_of_the_first_day_word(self):
        talk = read_talk("/@cy I =10 here [go coming3 coming3 last3]")
        talk = with_word(talk, (0, 0), 2, ("date", 3))
        found = origins_of(talk, (0,), read_talk("go coming3 coming3 last3"), STAY)
        self.assertEqual(found.days, (("date", 10),))
        talk = read_talk("/@cy I today here [go coming3]")
        self.assertEqual(origins_of(talk, (0,), said_alone(talk, (0,)), STAY).days, days_leading_to(
            saw_sevens(3, 0), saw(3, 0)))

    def test_unknown_parts(self):
        talk = read_talk("/somebody @dot someday here (come self told that; /somebody @dot =3 here (go self told))")
        first = read_talk("come I you today; /somebody @dot =3 here (go self told)")
        found = origins_of(talk, (0,), first, SHIFT)
        self.assertEqual(found, Origins((("who", 0),), (("name", "dot"),), (even(0, ("day", 0)),), (("Z",),)))
        # What stands for the inner somebody would be an unknown part of a higher number.
        inner = read_talk("come I you today; /somebody @dot =3 here (go I told)")
        self.assertIsNone(origins_of(talk, (0,), inner, STAY))
        self.assertIsNone(origins_of(talk, (0,), read_talk("come I you today; /@cy @dot =3 here (go self told)"), SHIFT))
        own = read_talk("/@cy @dot =3 here (come told; /somebody @dot =3 here (come told))")
        self.assertIsNone(origins_of(own, (0,), read_talk("come @dot; /somebody somebody =3 here (come told)"), SHIFT))
        own = read_talk("/@cy @dot =3 here (/somebody @dot =3 here (come self))")
        self.assertEqual(origins_of(own, (0,), read_talk("/somebody @dot =3 here (come self)"), STAY), Origins(
            None, None, None, (("Z",),)))
        self.assertIsNone(origins_of(own, (0,), read_talk("/@eve @dot =3 here (come I)"), STAY))

    def test_other_shapes(self):
        alone = said_alone(TOLD, (0,))
        for first in [
                Talk(alone.rows[:1]), Talk(alone.rows + alone.rows[:1]), Talk((alone.rows[1], alone.rows[0])),
                Talk((Plain("stay", alone.rows[0].words), alone.rows[1])), Talk((come(), alone.rows[1])),
                Talk((report("own", come()), alone.rows[1])), with_word(alone, (0,), 0, ("here",)),
                with_word(alone, (0,), 1, ("I",)), with_word(alone, (1,), 1, ("you",))]:
            self.assertIsNone(origins_of(TOLD, (0,), first, STAY))
            self.assertFalse(is_origin(TOLD, (0,), first, STAY, (("T",), ("H",), even(0), ("Z",))))
        for text, words in [("come I", "here today =3 #rome"), ("come here", "I you today @cy"), ("come today", "I here @cy #rome"),
                            ("come coming3", "you here @cy #rome"), ("come @cy", "today here =3 #rome")]:
            talk = read_talk(f"/@cy I today #rome [{text}]")
            for word in words.split():
                self.assertIsNone(origins_of(talk, (0,), read_talk(f"come {word}"), STAY))
        told = read_talk("/@cy @dot =3 here (/@cy @dot =3 here (come))")
        self.assertIsNone(origins_of(told, (0,), read_talk("/@cy @dot =3 here [come]"), STAY))
        self.assertIsNotNone(origins_of(told, (0,), read_talk("/@cy @dot =3 here (come)"), STAY))

    def test_errors_in_their_order(self):
        alone = said_alone(TOLD, (0,))
        for path, index in [(None, 0), ((), 0), ((2,), 0), ((0, 0), 2), ((True,), 0), ((1, 1, 0), 3)]:
            self.refused(NoPath(index), origins_of, TOLD, path, alone, STAY)
            self.refused(NoPath(index), is_origin, TOLD, path, alone, STAY, None)
        fine = [("T",), ("H",), even(0), ("Z",)]
        for no in [None, (), fine[:3], fine + [1], "abcd", {1: 2}, 3, dict(enumerate(fine))]:
            self.refused(BadOrigin(0), is_origin, TOLD, (1,), alone, STAY, no)
        wrong = [
            [None, ("Z",), even(0), ("T", 1), ["T"], ("who", 2), ("whom", 11), ("who", True), ("I",), ("name", "Ann")],
            [None, ("Z",), ("day", 1), ("whom", 2), ("who", 12), ("you",), ["name", "ann"]],
            [None, ("T",), ("D",), ("day", 1), even(0, ("day", 2)), saw(1, 1, ("day", 11)), ("date", True), ("sevens", D, (1,))],
            [None, ("T",), ("where", 2), ("where", 12), ("here",), ("name", "ann"), ("place", 1)],
        ]
        for index, row in enumerate(wrong):
            for no in row:
                origin = fine[:index] + [no] + [None] * (3 - index)
                self.refused(BadOrigin(index), is_origin, TOLD, (1,), alone, STAY, origin)
        for term in [("who", 1), ("whom", 0)]:
            self.assertFalse(is_origin(TOLD, (1,), alone, STAY, [term, term, even(3, ("day", 1)), ("where", 0)]))

    def test_origins_against_trying_all_terms(self):
        rng = random.Random(102)
        found_some = many_days = 0
        for talk, tongue, path in talks_with_reports(rng, 60, 3, 2):
            first = self.some_first(rng, talk, tongue, path)
            number = report_number(talk, path)
            found = origins_of(talk, path, first, tongue)
            situations = many_situations(rng, 9)
            for terms in self.candidates(rng, talk, first, number, found):
                told = self.says_so(talk, path, first, tongue, terms, situations)
                self.assertEqual(is_origin(talk, path, first, tongue, terms), told, (terms, path))
                found_some += told
            if found is not None and found.days is not None:
                many_days += len(found.days) > 1
        self.assertGreater(found_some, 100)
        self.assertGreater(many_days, 2)

    def some_first(self, rng, talk, tongue, path):
        """Return a talk that may be a first one: the first talk, or the rows as they are if they stand alone."""
        count = count_first_talks(talk, path, tongue)
        if count:
            first = said_alone(first_talk_at(talk, path, tongue, rng.randrange(count)), path)
        else:
            try:
                first = Talk(row_at(talk, path).rows)
            except ValueError:
                first = Talk([come()])
        places = list(words_of(first))
        if places and rng.random() < 0.3:
            at, index, word = rng.choice(places)
            new = {"today": ("coming", 3), "coming": ("last", 2), "I": ("you",), "here": ("place", "rome")}.get(word[0])
            first = first if new is None else with_word(first, at, index, new)
        return first

    def candidates(self, rng, talk, first, number, found):
        """Return tuples of terms to try: some of those told, and others near them."""
        persons = [("T",), ("H",)] + [("name", name) for name in names_in(talk) + names_in(first)]
        places = [("Z",)] + [("place", name) for name in places_in(talk) + places_in(first)]
        roots = [D]
        for at in range(number + 1):
            persons += [("who", at), ("whom", at)]
            places.append(("where", at))
            roots.append(("day", at))
        days = [("date", n) for n in range(-45, 45)]
        days += [even(rng.randint(-9, 9), root) for root in roots for _ in range(4)]
        days += [saw(rng.randint(0, 6), rng.randint(-9, 9), root) for root in roots for _ in range(4)]
        rows = [persons, persons, days, places]
        told = [None] * 4 if found is None else [found.tellers, found.hearers, found.days, found.places]
        near = [row[0] if row else None for row in told]
        if near[2] is not None:
            days += [day_plus(near[2], k) for k in range(-8, 9)]
            days += list(told[2])
        base = [rng.choice(rows[at]) if term is None else term for at, term in enumerate(near)]
        tried = [tuple(base)]
        for at, row in enumerate(rows):
            picks = row if at != 2 else days[-25:] + rng.sample(days, 12)
            tried += [tuple(base[:at] + [term] + base[at + 1:]) for term in picks]
        tried += [tuple(rng.choice(row) for row in rows) for _ in range(5)]
        return tried

    def says_so(self, talk, path, first, tongue, terms, situations):
        """Tell whether in all these situations the first talk says what is heard within the report."""
        for situation, values in situations:
            heard = heard_row(told_talk(talk, situation, tongue, values), path)[6]
            who, whom, day, place = [value_of(term, situation, values)[1] for term in terms]
            _, inner = situation_within(talk, path, situation, tongue, values)
            inner = list(inner) + values[len(inner) + report_number(talk, path) + 1:]
            try:
                if hear_talk(first, Situation(who, whom, day, place), tongue, inner) != heard:
                    return False
            except ValueError:
                return False
        return True

    def test_first_talks_have_the_report_as_origin(self):
        rng = random.Random(103)
        for talk, tongue, path in talks_with_reports(rng, 60, 3, 2):
            count = count_first_talks(talk, path, tongue)
            if count:
                first = said_alone(first_talk_at(talk, path, tongue, rng.randrange(count)), path)
                self.assertIsNotNone(origins_of(talk, path, first, tongue))

    def test_tongues(self):
        talk = read_talk("/@cy I today-1 here [come I; /@dot you today here (go I you today here)]")
        for tongue in TONGUES:
            self.assertEqual(origins_of(talk, (0,), said_alone(talk, (0,)), tongue), Origins(
                (("name", "cy"),), (("T",),), (even(-1),), (("Z",),)))


if __name__ == "__main__":
    unittest.main()
