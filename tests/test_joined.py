"""[8.5]: a report of a report told as one."""

import random
import unittest

from tests.helper import SHIFT, STAY, TONGUES, Case, come, random_talk, report, told_talk
from tests.talkkit import many_situations, words_meaning
from whosetomorrow.errors import BadValues, NoPath, NotAlone, NoWord
from whosetomorrow.forms import form_of
from whosetomorrow.joined import joined_values, one_report
from whosetomorrow.talks import Plain, Report, Talk
from whosetomorrow.talktext import read_talk, talk_text
from whosetomorrow.talkways import (
    report_number, report_paths, row_at, rows_of, unknown_parts, with_row, word_at, words_of,
)
from whosetomorrow.words import is_unknown


def lone_reports(talk):
    """Return the paths of the reports whose only row is a report."""
    return [path for path in report_paths(talk)
            if len(row_at(talk, path).rows) == 1 and isinstance(row_at(talk, path).rows[0], Report)]


def joining_talks(rng, many):
    """Yield random (talk, tongue, path) with a report whose only row is a report."""
    while many:
        talk = random_talk(rng, 4, 2)
        paths = lone_reports(talk)
        if paths:
            many -= 1
            yield talk, rng.choice(TONGUES), rng.choice(paths)


def told_joined(heard, path):
    """Return what is heard with the entry for the report at the path replaced by the one within it."""
    first = path[0]
    row = heard[first]
    new = row[6][0] if len(path) == 1 else row[:6] + (told_joined(row[6], path[1:]),)
    return heard[:first] + (new,) + heard[first + 1:]


def new_path(path, joined):
    """Return where a path within a joined report leads in the joined talk."""
    return path[:len(joined)] + path[len(joined) + 1:]


class JoinedTest(Case):
    def joined(self, text, path=(0,), tongue=STAY):
        return talk_text(one_report(read_talk(text), path, tongue))

    def test_words_are_said_anew(self):
        self.assertEqual(
            self.joined("/@cy I today-1 #rome [/I you today+3 here [come I you today here]]"),
            "/@cy I today+2 #rome [come I you today here]")
        self.assertEqual(
            self.joined("/@cy I today-1 #rome (/self told that+1 there (come self told I; go today that there))"),
            "/@cy I today #rome (come self told I; go today that there)")
        self.assertEqual(
            self.joined("/@cy @dot today here [/@eve I coming3 #rome (come told self today)]", tongue=SHIFT),
            "/@eve @cy coming3 #rome (come told self today)")

    def test_words_that_have_their_term_are_kept(self):
        text = "/@cy @dot =4 #rome [/@eve @cy today+1 here (come @eve =5 #rome; go self that there)]"
        self.assertEqual(self.joined(text), "/@eve @cy =5 #rome (come @eve =5 #rome; go self that there)")

    def test_unknown_parts_of_both(self):
        # The inner somebody stays; the inner day is the outer unknown day; the inner place the outer unknown one.
        talk = read_talk("/@cy somebody someday somewhere [/somebody @cy today here (come self that there)]")
        joined = one_report(talk, (0,), STAY)
        self.assertEqual(talk_text(joined), "/somebody @cy someday somewhere (come self that there)")
        values = [("aa", "bb", 7, "cc"), ("dd", "ee", 8, "ff")]
        self.assertEqual(joined_values(talk, (0,), STAY, values), (("dd", None, 7, "cc"),))
        self.assertEqual(joined_values(talk, [0], STAY, tuple(values[:1]) + (["dd", 0, 0, 0],)), (("dd", None, 7, "cc"),))

    def test_the_outer_unknown_whom_is_the_inner_one(self):
        talk = read_talk("/somebody somebody today here [/I you =3 here [come I you]]")
        joined = one_report(talk, (0,), STAY)
        self.assertEqual(talk_text(joined), "/somebody somebody =3 here [come I you]")
        self.assertEqual(joined_values(talk, (0,), STAY, [("aa", "bb", 0, "")]), (("aa", "bb", None, None),))
        # Turned round they are not just the unknown who and whom.
        talk = read_talk("/somebody somebody today here [/you I =3 here [come I you]]")
        self.refused(NoWord((0, 0), 0), one_report, talk, (0,), STAY)
        talk = read_talk("/somebody @dot today here [/you I =3 here [come I you]]")
        self.refused(NoWord((0, 0), 1), one_report, talk, (0,), STAY)

    def test_any_other_unknown_part_has_no_word(self):
        for text, place in [
                ("/somebody @dot today here [/@eve you =3 here (come I)]", ((0, 0, 0), 0)),
                ("/@cy @dot someday here [/@eve you today+1 here [come I]]", ((0, 0), 2)),
                ("/@cy @dot someday here [/@eve you coming3 here [come I]]", ((0, 0), 2)),
                ("/@cy @dot someday here [/@eve you someday here (come today)]", ((0, 0, 0), 0)),
                ("/@cy @dot today somewhere [/@eve you =3 #rome (go here; come)]", ((0, 0, 0), 0)),
                ("/@cy @dot today somewhere [/@eve you =3 #rome (/@cy @dot =3 here [go here; come])]", ((0, 0, 0), 3))]:
            self.refused(NoWord(*place), one_report, read_talk(text), (0,), STAY)
            self.refused(NoWord(*place), joined_values, read_talk(text), (0,), STAY, None)

    def test_no_word_for_a_known_part(self):
        # You of the outer own report is Dot, and no word within the inner own one names the hearer of all.
        talk = read_talk("/@cy @dot today here (/@eve told =3 here (come you))")
        self.assertEqual(talk_text(one_report(talk, (0,), STAY)), "/@eve @dot =3 here (come you)")
        talk = read_talk("come; /@cy you someday here (/@eve @dot =3 here (come told coming3))")
        self.assertEqual(
            talk_text(one_report(talk, (1,), STAY)), "come; /@eve @dot =3 here (come told coming3)")
        talk = read_talk("come; /@cy you today here (/@eve @dot =3 here (come told coming3))")
        self.assertEqual(
            talk_text(one_report(talk, (1,), SHIFT)), "come; /@eve @dot =3 here (come told coming3)")
        # Today + 60 has no word.
        talk = read_talk("/@cy I today+30 here [/@eve @dot today+30 here [come I]]")
        self.refused(NoWord((0, 0), 2), one_report, talk, (0,), STAY)

    def test_report_numbers_behind(self):
        text = ("/@cy I today here [/@dot I today here (/somebody self =1 here [go today])]; "
                "/@eve you someday here (go that; /somebody I =3 here (go))")
        talk = read_talk(text)
        joined = one_report(talk, (0,), STAY)
        self.assertEqual(talk_text(joined), (
            "/@dot @cy today here (/somebody self =1 here [go today]); "
            "/@eve you someday here (go that; /somebody I =3 here (go))"))
        values = [(None,) * 4, (None,) * 4, ("aa", 1, 1, 1), (1, 1, 5, 1), ("bb", 1, 1, 1)]
        self.assertEqual(joined_values(talk, (0,), STAY, values), (
            (None,) * 4, ("aa", None, None, None), (None, None, 5, None), ("bb", None, None, None)))

    def test_reports_ahead_and_around(self):
        talk = read_talk(
            "/@eve you someday here (go that); /somebody I someday here (/@cy self that here [/@dot I today here (go self)])")
        joined = one_report(talk, (1, 0), STAY)
        self.assertEqual(
            talk_text(joined),
            "/@eve you someday here (go that); /somebody I someday here (/@dot @cy that here (go self))")

    def test_errors_in_their_order(self):
        talk = read_talk("come; /@cy I today here [come]; /@cy I today here [/@dot I =3 here [go]; come]; "
                         "/@cy I someday here [/somebody I today+1 here [go]]")
        for path, index in [(None, 0), ((), 0), ((4,), 0), ((0,), 1), ((1, 0), 2), ((True,), 0)]:
            self.refused(NoPath(index), one_report, talk, path, STAY)
            self.refused(NoPath(index), joined_values, talk, path, STAY, None)
        for path in ((1,), (2,), (3, 0), (2, 0)):
            self.refused(NotAlone(), one_report, talk, path, STAY)
            self.refused(NotAlone(), joined_values, talk, list(path), STAY, None)
        self.refused(NoWord((3, 0), 2), one_report, talk, (3,), STAY)
        self.refused(NoWord((3, 0), 2), joined_values, talk, (3,), STAY, None)

    def test_values_last(self):
        talk = read_talk("come; /@cy somebody =3 here [/somebody I today+1 here [go]]; /@cy I someday here [go]")
        fine = [(0, "aa", 0, 0), ("bb", 0, 0, 0), (0, 0, 4, 0)]
        self.assertEqual(joined_values(talk, (1,), STAY, fine), (("bb", None, None, None), (None, None, 4, None)))
        for index, values in [(0, None), (0, ()), (0, "abc"), (1, fine[:1]), (2, fine[:2]), (0, [3] + fine[1:]),
                              (2, fine[:2] + [(0, 0, True, 0)]), (0, [(0, "Ann", 0, 0)] + fine[1:])]:
            self.refused(BadValues(index), joined_values, talk, (1,), STAY, values)
        plain = read_talk("/@cy I today here [/@dot I today here (go I)]")
        self.assertEqual(joined_values(plain, (0,), STAY), ((None,) * 4,))

    def test_heard_as_before_with_the_entry_replaced(self):
        rng = random.Random(111)
        made = lacking = unknown = 0
        for talk, tongue, path in joining_talks(rng, 400):
            situations = many_situations(rng, 8)
            try:
                joined = one_report(talk, path, tongue)
            except NoWord as error:
                self.check_lacking(talk, tongue, path, error, situations)
                lacking += 1
                continue
            made += 1
            self.assertEqual(joined.reports, talk.reports - 1)
            for situation, values in situations:
                new_values = joined_values(talk, path, tongue, values)
                self.tuples_only(new_values)
                self.assertEqual(len(new_values), joined.reports)
                parts = [(number, index) for number in range(joined.reports) for index in range(4)
                         if new_values[number][index] is not None]
                self.assertEqual(tuple(parts), unknown_parts(joined))
                heard = told_talk(talk, situation, tongue, values)
                self.assertEqual(told_talk(joined, situation, tongue, new_values), told_joined(heard, path))
            unknown += any(is_unknown(word) for word in row_at(joined, path).parts)
            self.check_words(talk, tongue, path, joined, situations)
        self.assertGreater(made, 60)
        self.assertGreater(lacking, 60)
        self.assertGreater(unknown, 10)

    def check_words(self, talk, tongue, path, joined, situations):
        """Check that words are kept where they mean the same, and that all else stays."""
        inner = path + (0,)
        for at, index, word in words_of(talk):
            if at[:len(inner)] != inner:
                if at != path:
                    new = new_path(at, path) if at[:len(path)] == path else at
                    self.assertEqual(word_at(joined, new, index), word)
                continue
            new = word_at(joined, new_path(at, path), index)
            if is_unknown(word) or is_unknown(new):
                self.assertTrue(is_unknown(new))
                continue
            told = words_meaning(talk, tongue, at, index, situations, skipped=path)
            self.assertIn(new, told)
            self.assertEqual(new, word if word in told else told[0])
        for at, row in rows_of(talk):
            if at != path:
                new = row_at(joined, new_path(at, path) if at[:len(path)] == path else at)
                if isinstance(row, Plain):
                    self.assertEqual(new.deed, row.deed)
                else:
                    self.assertEqual(new.manner, row.manner)

    def check_lacking(self, talk, tongue, path, error, situations):
        """Check that no word means the same at the told place, and that it is the first such place."""
        number = report_number(talk, path)
        for at, index, word in words_of(talk):
            if at[:len(path) + 1] != path + (0,):
                continue
            told = words_meaning(talk, tongue, at, index, situations, skipped=path)
            if (at, index) == (error.path, error.index):
                self.assertEqual(told, ())
                return
            unknown = [(number, index), (number + 1, index)]
            form = form_of(talk, tongue)
            self.assertTrue(told or is_unknown(word) or (len(at) == len(path) + 1 and self.is_one_of(form, at, index, unknown)))
        self.fail("there is no such place")

    def is_one_of(self, form, path, index, parts):
        """Tell whether the term at a place of a form is one of these unknown parts."""
        rows = form
        for entry in path:
            row = rows[entry]
            rows = row[6]
        heads = ("who", "whom", "day", "where")
        roots = [(heads[at], number) for number, at in parts]
        term = row[1 + index]
        return term in roots or term in [("sevens", root, (0,) * 7) for root in roots]

    def test_twelve_reports(self):
        row = Report(("somebody",), ("I",), ("one day",), ("here",), "own", [come(("today", 1))])
        inner = report("own", *[row] * 5)
        talk = Talk([report("own", inner), *[row] * 5])
        joined = one_report(talk, (0,), STAY)
        self.assertEqual(joined, with_row(Talk([inner, *[row] * 5]), (0,), inner))
        values = [("aa", "", at, "") for at in range(12)]
        told = joined_values(talk, (0,), STAY, values)
        self.assertEqual(told, ((None,) * 4,) + tuple(("aa", None, at, None) for at in range(2, 12)))


if __name__ == "__main__":
    unittest.main()
