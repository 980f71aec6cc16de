"""[0.4], [1.4], [1.5]: sayings and talks."""

import unittest

from tests.helper import (
    ALL_WORDS, DAY_WORDS, KNOWN_WORDS, NO_NAMES, NO_WORDS, PERSON_WORDS, PLACE_WORDS, UNKNOWN_WORDS, Case, come,
    nested, report,
)
from whosetomorrow.errors import BadSaying, BadTalk
from whosetomorrow.situations import Situation
from whosetomorrow.talks import Plain, Report, Saying, Talk

ANN = ("name", "ann")
RIGHT = [("I",), ("you",), ("today", 0), ("here",), "own", [Plain("come", [])]]


class PlainTest(Case):
    def test_attributes(self):
        plain = Plain("come", [("I",), ("today", 1)])
        self.assertEqual((plain.deed, plain.words), ("come", (("I",), ("today", 1))))
        self.assertEqual((plain.depth, plain.reports), (0, 0))
        self.assertIsInstance(plain, Saying)
        self.assertEqual(Plain(words=(), deed="come").words, ())

    def test_all_known_words_and_up_to_four_of_them(self):
        for word in KNOWN_WORDS:
            self.assertEqual(Plain("come", (word,)).words, (word,))
        for many in range(5):
            self.assertEqual(Plain("come", [("I",)] * many).words, (("I",),) * many)
        self.refused(BadSaying("words"), Plain, "come", [("I",)] * 5)

    def test_wrong_deeds(self):
        for deed in NO_NAMES:
            self.refused(BadSaying("deed"), Plain, deed, [])
            self.refused(BadSaying("deed"), Plain, deed, None)

    def test_wrong_words(self):
        for words in (None, "I", ("I",), {("I",): 1}, {("I",)}, 3, iter([("I",)]), ("I", "you"), range(0)):
            self.refused(BadSaying("words"), Plain, "come", words)
        for word in NO_WORDS + UNKNOWN_WORDS:
            self.refused(BadSaying("words"), Plain, "come", [word])
            self.refused(BadSaying("words"), Plain, "come", (("I",), ("I",), ("I",), word))

    def test_a_list_that_is_changed_later_changes_nothing(self):
        words = [("I",)]
        plain = Plain("come", words)
        words.append(("you",))
        words[0] = ("here",)
        self.assertEqual(plain.words, (("I",),))

    def test_equal(self):
        self.equal_only((Plain("come", [("I",)]), Plain("come", (("I",),))), [
            Plain("go", [("I",)]), Plain("come", []), Plain("come", [("you",)]), Plain("come", [("I",), ("I",)]),
            report("own", come()), Talk([Plain("come", [("I",)])]), Situation("ann", "bob", 0, "rome"),
            ("come", (("I",),)),
        ])


class ReportTest(Case):
    def test_attributes(self):
        rows = [come(), come(("I",))]
        made = Report(("I",), ("you",), ("today", -1), ("here",), "own", rows)
        self.assertEqual((made.who, made.whom, made.day, made.place), (("I",), ("you",), ("today", -1), ("here",)))
        self.assertEqual(made.parts, (("I",), ("you",), ("today", -1), ("here",)))
        self.assertEqual((made.manner, made.rows), ("own", tuple(rows)))
        self.assertEqual((made.depth, made.reports), (1, 1))
        self.assertIsInstance(made, Saying)
        named = Report(rows=rows, manner="own", place=("here",), day=("today", -1), whom=("you",), who=("I",))
        self.assertEqual(named, made)

    def test_the_kinds_of_its_own_words(self):
        kinds = [
            PERSON_WORDS + [("somebody",)], PERSON_WORDS + [("somebody",)],
            DAY_WORDS + [("one day",)], PLACE_WORDS + [("somewhere",)],
        ]
        for at, what in enumerate(("who", "whom", "day", "place")):
            for word in ALL_WORDS:
                given = RIGHT[:at] + [word] + RIGHT[at + 1:]
                if word in kinds[at]:
                    self.assertEqual(Report(*given).parts[at], word)
                else:
                    self.refused(BadSaying(what), Report, *given)
            for thing in NO_WORDS:
                self.refused(BadSaying(what), Report, *(RIGHT[:at] + [thing] + RIGHT[at + 1:]))

    def test_wrong_manners(self):
        for manner in (None, True, "", "Own", "own ", "indirectly", ("own",), ["own"], b"own", 0, object()):
            self.refused(BadSaying("manner"), Report, *RIGHT[:4], manner, [come()])

    def test_wrong_rows(self):
        for rows in (
                None, [], (), [None], [come(), "come"], [Saying()], come(), {come: 1}, [come()] * 7, "come",
                iter([come()]), [("come", ())], [Talk([come()])], [Plain]):
            self.refused(BadSaying("rows"), Report, *RIGHT[:5], rows)
        for many in range(1, 7):
            self.assertEqual(len(Report(*RIGHT[:5], [come()] * many).rows), many)

    def test_depth_and_number_of_reports(self):
        for depth in range(5):
            row = nested(depth)
            self.assertEqual((row.depth, row.reports), (depth, depth))
        wide = report("own", come(), nested(1), nested(3), nested(2))
        self.assertEqual((wide.depth, wide.reports), (4, 7))
        twice = nested(2)
        self.assertEqual(report("own", twice, twice).reports, 5)
        self.refused(BadSaying("deep"), Report, *RIGHT[:5], [nested(4)])
        self.refused(BadSaying("deep"), Report, *RIGHT[:5], [come(), nested(4), come()])

    def test_which_word_comes_first(self):
        wrong = [None, ("today", 0), ("here",), ("I",), "both", []]
        for at, what in enumerate(("who", "whom", "day", "place", "manner", "rows")):
            self.refused(BadSaying(what), Report, *(RIGHT[:at] + wrong[at:]))
        self.refused(BadSaying("manner"), Report, *RIGHT[:4], "both", [nested(4)])
        self.refused(BadSaying("rows"), Report, *RIGHT[:5], [nested(4), None])
        self.refused(BadSaying("rows"), Report, *RIGHT[:5], [nested(4)] * 7)

    def test_a_list_that_is_changed_later_changes_nothing(self):
        rows = [come()]
        made = Report(*RIGHT[:5], rows)
        rows.append(nested(4))
        self.assertEqual(made.rows, (come(),))
        self.assertEqual(made.depth, 1)

    def test_words_that_need_a_report_may_stand_in_any_report_by_itself(self):
        made = Report(("self",), ("told",), ("that day", 0), ("there",), "own", [come(("self",))])
        self.assertEqual(made.who, ("self",))

    def test_equal(self):
        same = (Report(*RIGHT), Report(*RIGHT[:5], (come(),)))
        other = [("you",), ("I",), ("today", 1), ("there",), "indirect", [come(), come()]]
        others = [Report(*(RIGHT[:at] + [other[at]] + RIGHT[at + 1:])) for at in range(6)]
        self.equal_only(same, others + [come(), Talk([Report(*RIGHT)]), tuple(RIGHT)])


class TalkTest(Case):
    def test_rows_length_and_iteration(self):
        rows = [come(), nested(2), come(("I",))]
        talk = Talk(rows)
        self.assertEqual(talk.rows, tuple(rows))
        self.assertEqual(len(talk), 3)
        self.assertEqual(list(talk), rows)
        self.assertEqual((talk.depth, talk.reports), (2, 2))
        self.assertEqual((Talk([come()]).depth, Talk([come()]).reports), (0, 0))
        rows.pop()
        self.assertEqual(len(talk), 3)
        self.assertEqual(Talk(rows=rows).rows, tuple(rows))

    def test_many(self):
        for rows in (None, [], (), [come()] * 7, "come", come(), 3, {0: come()}, iter([come()]), [None] * 7):
            self.refused(BadTalk((), "many"), Talk, rows)
        for many in range(1, 7):
            self.assertEqual(len(Talk((come(),) * many)), many)

    def test_row(self):
        for thing in (None, "come", Saying(), Talk([come()]), ("I",), [come()], Plain):
            self.refused(BadTalk((0,), "row"), Talk, [thing])
            self.refused(BadTalk((1,), "row"), Talk, [come(), thing, None])
        self.refused(BadTalk((5,), "row"), Talk, [come(("self",))] + [nested(4)] * 4 + [None])

    def test_twelve_and_thirteen_reports(self):
        self.assertEqual(Talk([nested(4)] * 3).reports, 12)
        self.refused(BadTalk((), "reports"), Talk, [nested(4)] * 3 + [nested(1)])
        self.refused(BadTalk((), "reports"), Talk, [come(("self",))] + [nested(4)] * 4)
        self.assertEqual(Talk([report("own", *[nested(1)] * 5)] * 2).reports, 12)

    def test_outside_at_the_outermost_level(self):
        for word in KNOWN_WORDS:
            needs = word[0] in ("self", "told", "that day", "there", "then coming", "then last")
            if needs:
                self.refused(BadTalk((0,), "outside"), Talk, [come(("I",), word)])
                self.refused(BadTalk((1,), "outside"), Talk, [come(), come(word), come(word)])
                self.refused(BadTalk((0, 1), "outside"), Talk, [report("own", come(), come(word))])
            else:
                self.assertEqual(Talk([come(word)]).rows, (come(word),))
            self.assertEqual(Talk([report("indirect", come(word))]).depth, 1)

    def test_outside_for_own_words_of_a_report(self):
        for at, word in enumerate([("self",), ("told",), ("that day", 0), ("there",)]):
            parts = [("I",), ("you",), ("today", 0), ("here",)]
            parts[at] = word
            row = Report(*parts, "indirect", [come(("self",))])
            self.refused(BadTalk((0,), "outside"), Talk, [row])
            self.refused(BadTalk((1, 0), "outside"), Talk, [come(), report("own", row)])
            self.assertEqual(Talk([report("indirect", row)]).depth, 2)

    def test_outside_is_told_of_the_first_row_in_the_order_of_reading(self):
        bad = come(("there",))
        inner = Report(("self",), ANN, ("today", 0), ("here",), "own", [bad])
        self.refused(BadTalk((0,), "outside"), Talk, [inner, bad])
        self.refused(BadTalk((0, 0, 0), "outside"), Talk, [report("indirect", inner), bad])
        self.refused(BadTalk((1,), "outside"), Talk, [report("indirect", bad), bad])
        deep = report("indirect", report("indirect", report("own", come(), report("indirect", bad), bad)))
        self.refused(BadTalk((0, 0, 0, 2), "outside"), Talk, [deep, bad])
        self.assertEqual(Talk([report("own", report("indirect", bad))]).depth, 2)

    def test_unknown_words_are_let_in_reports_everywhere(self):
        row = Report(*[("somebody",), ("somebody",), ("one day",), ("somewhere",)], "own", [come()])
        self.assertEqual(Talk([row, report("own", row), report("indirect", row)]).reports, 5)

    def test_equal_by_rows(self):
        self.equal_only((Talk([come(), nested(2)]), Talk((come(), nested(2)))), [
            Talk([come()]), Talk([nested(2), come()]), Talk([come(), nested(2, "own")]), Talk([come(("I",))]),
            come(), nested(2), (come(), nested(2)),
        ])


if __name__ == "__main__":
    unittest.main()
