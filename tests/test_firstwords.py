"""[8.1], [8.2]: first words and first talks."""

import itertools
import random
import unittest

from tests.helper import NO_WHOLES, SHIFT, STAY, TONGUES, Case, come, product, report, told_talk
from tests.talkkit import many_situations, talks_with_reports, words_meaning
from whosetomorrow.alike import bare_same
from whosetomorrow.errors import NoFirst, NoPath, NotWithin
from whosetomorrow.facts import Facts
from whosetomorrow.firstwords import count_first_talks, first_talk_at, first_talks, first_words, number_of_first
from whosetomorrow.hearing import said_alone
from whosetomorrow.menus import Menu
from whosetomorrow.rewording import all_rewordings
from whosetomorrow.talks import Plain, Report, Talk
from whosetomorrow.talktext import read_talk
from whosetomorrow.talkways import report_paths, row_at, rows_of, told_manners, unknown_parts, with_word, word_at, words_of

TOLD = read_talk("go I; /@cy I today-1 here (come self today; /somebody told someday there (go you coming3))")


def within(talk, report_path):
    """Return the word places within a report."""
    many = len(report_path)
    return [(path, index) for path, index, _ in words_of(talk) if len(path) > many and path[:many] == report_path]


class FirstWordsTest(Case):
    def test_an_example(self):
        self.assertEqual(first_words(TOLD, (1,), (1, 0), 0, STAY), (("I",), ("name", "cy")))
        self.assertEqual(first_words(TOLD, (1,), (1, 0), 1, STAY), (("today", 1),))
        self.assertEqual(first_words(TOLD, [1], [1, 0], 1, SHIFT), (("today", 0),))
        self.assertEqual(first_words(TOLD, (1,), (1, 1), 0, STAY), (("somebody",),))
        self.assertEqual(first_words(TOLD, (1,), (1, 1), 1, STAY), (("you",),))
        self.assertEqual(first_words(TOLD, (1,), (1, 1), 2, STAY), (("one day",),))
        self.assertEqual(first_words(TOLD, (1,), (1, 1), 3, STAY), (("here",),))
        # "you" stands for the hearer of all, whom own words of Cy do not name.
        self.assertEqual(first_words(TOLD, (1,), (1, 1, 0), 0, STAY), ())
        self.assertEqual(first_words(TOLD, (1,), (1, 1, 0), 0, SHIFT), (("you",), ("told",)))

    def test_an_own_report_has_its_own_words_among_them(self):
        talk = read_talk("/@cy @dot =10 #rome [come I @cy today+4 =14; go coming0 here you #rome]")
        self.assertEqual(first_words(talk, (0,), (0, 0), 0, STAY), (("I",), ("name", "cy")))
        self.assertEqual(first_words(talk, (0,), (0, 0), 3, STAY), (("today", 4), ("coming", 0), ("date", 14)))
        self.assertEqual(first_words(talk, (0,), (0, 1), 3, SHIFT), (("here",), ("place", "rome")))

    def test_errors_in_their_order(self):
        for path in (None, "1", (), (0,), (2,), (1, 0), (True,), (1, 1, 0)):
            index = {None: 0, "1": 0, (): 0, (0,): 1, (2,): 0, (1, 0): 2, (True,): 0, (1, 1, 0): 3}[path]
            self.refused(NoPath(index), first_words, TOLD, path, None, None, STAY)
        for path, index, wrong in [
                (None, 0, 0), ((3,), 0, 0), ((1, 0), 2, 2), ((1, 0), True, 2), ((1, 2), 0, 1), ((1, 0, 0), 0, 2), ((0,), 9, 1)]:
            self.refused(NoPath(wrong), first_words, TOLD, (1,), path, index, STAY)
        for path, index in [((0,), 0), ((1,), 0), ((1,), 3)]:
            self.refused(NotWithin(), first_words, TOLD, (1,), path, index, STAY)
        for path in ((1, 0), (1, 1), (1,)):
            self.refused(NotWithin(), first_words, TOLD, [1, 1], list(path), 0, STAY)

    def test_against_all_words(self):
        rng = random.Random(91)
        counts = set()
        for talk, tongue, report_path in talks_with_reports(rng, 60):
            situations = many_situations(rng)
            unknown = {(report_paths(talk)[number], index) for number, index in unknown_parts(talk)}
            for path, index in within(talk, report_path):
                found = first_words(talk, report_path, path, index, tongue)
                if (path, index) in unknown:
                    self.assertEqual(found, (word_at(talk, path, index),))
                    continue
                told = words_meaning(talk, tongue, path, index, situations, {report_path: "own"})
                self.assertEqual(set(found), set(told), (path, index))
                self.assertEqual(len(found), len(told))
                counts.add(len(found))
        self.assertTrue({0, 1, 2} <= counts)


class FirstTalksTest(Case):
    def test_path_comes_first(self):
        for path, index in [(None, 0), ((), 0), ((0,), 1), ((2,), 0), ((1, 0), 2), ((True,), 0)]:
            self.refused(NoPath(index), count_first_talks, TOLD, path, STAY)
            self.refused(NoPath(index), first_talk_at, TOLD, path, STAY, -1)
            self.refused(NoPath(index), first_talks, TOLD, path, STAY)
            self.refused(NoPath(index), number_of_first, TOLD, path, STAY, TOLD)

    def test_none_at_all(self):
        self.assertEqual(count_first_talks(TOLD, (1,), STAY), 0)
        self.assertEqual(list(first_talks(TOLD, (1,), STAY)), [])
        for number in NO_WHOLES + [0, 1, -1]:
            self.refused(NoFirst(number), first_talk_at, TOLD, (1,), STAY, number)
        self.assertIsNone(number_of_first(TOLD, (1,), STAY, TOLD))

    def test_the_numbers_at_both_ends(self):
        count = count_first_talks(TOLD, (1,), SHIFT)
        self.assertEqual(count, 8)
        for number in NO_WHOLES + [-1, count, 10 ** 30]:
            self.refused(NoFirst(number), first_talk_at, TOLD, (1,), SHIFT, number)
        talks = list(first_talks(TOLD, [1], SHIFT))
        self.assertEqual([first_talk_at(TOLD, (1,), SHIFT, number) for number in range(count)], talks)
        self.assertEqual(talks[0], read_talk(
            "go I; /@cy I today-1 here [come I today; /somebody you someday here (go you coming3)]"))
        self.assertEqual(talks[1], read_talk(
            "go I; /@cy I today-1 here [come I today; /somebody you someday here (go you thencoming3)]"))
        self.assertEqual(talks[2].rows[1].rows[1].rows[0].words[0], ("told",))

    def test_no_words_within(self):
        talk = Talk([report("indirect", come(), Plain("go", ()))])
        self.assertEqual(count_first_talks(talk, (0,), STAY), 1)
        self.assertEqual(list(first_talks(talk, (0,), STAY)), [Talk([report("own", come(), Plain("go", ()))])])

    def test_the_product_and_each_number_there_and_back(self):
        rng = random.Random(92)
        empty = 0
        for talk, tongue, report_path in talks_with_reports(rng, 80):
            rows = [first_words(talk, report_path, path, index, tongue) for path, index in within(talk, report_path)]
            count = 1
            for row in rows:
                count *= len(row)
            self.assertEqual(count_first_talks(talk, report_path, tongue), count)
            empty += count == 0
            if count > 300:
                numbers = sorted(rng.sample(range(min(count, 10 ** 9)), 10) + [count - 1])
            else:
                numbers = range(count)
                choices = product(*rows)
                talks = list(first_talks(talk, report_path, tongue))
                self.assertEqual(len(talks), count)
                for new, words in zip(talks, choices):
                    self.assertEqual([word_at(new, *place) for place in within(talk, report_path)], list(words))
            for number in numbers:
                new = first_talk_at(talk, report_path, tongue, number)
                self.assertEqual(number_of_first(talk, report_path, tongue, new), number)
                self.assertIsNone(bare_same(talk, new, tongue))
                manners = list(told_manners(talk))
                manners[report_paths(talk).index(report_path)] = "own"
                self.assertEqual(told_manners(new), tuple(manners))
                inside = within(talk, report_path)
                for path, index, word in words_of(talk):
                    if (path, index) not in inside:
                        self.assertEqual(word_at(new, path, index), word)
        self.assertGreater(empty, 10)

    def test_big_counts(self):
        row = come(("today", 7), ("date", 7), ("coming", 0), ("name", "cy"))
        talk = Talk([Report(("name", "cy"), ("I",), ("date", 0), ("here",), "own", [
            report("indirect", *[row] * 6, who=("name", "cy"), day=("date", 0)) for _ in range(6)])])
        count = count_first_talks(talk, (0,), STAY)
        told = 1
        for path, index in within(talk, (0,)):
            told *= len(first_words(talk, (0,), path, index, STAY))
        self.assertEqual(count, told)
        self.assertGreater(count, 10 ** 80)
        for number in (0, 1, 10 ** 40, count - 1):
            new = first_talk_at(talk, (0,), STAY, number)
            self.assertEqual(number_of_first(talk, (0,), STAY, new), number)
        self.refused(NoFirst(count), first_talk_at, talk, (0,), STAY, count)

    def test_what_is_no_first_talk(self):
        first = first_talk_at(TOLD, (1,), SHIFT, 5)
        self.assertEqual(number_of_first(TOLD, (1,), SHIFT, first), 5)
        for other in [
                TOLD, Talk(first.rows[:1]), Talk(first.rows + (come(),)), Talk((first.rows[1], first.rows[0])),
                with_word(first, (0,), 0, ("you",)), with_word(first, (1,), 0, ("name", "bob")),
                with_word(first, (1, 0), 1, ("today", 1)), with_word(first, (1, 1), 0, ("I",)),
                with_word(first, (1, 1, 0), 0, ("I",)), Talk([Plain("come", [("I",)]), first.rows[1]]),
                read_talk("go I; /@cy I today-1 here [come I; /somebody you someday here (go you coming3)]"),
                read_talk("go I; /@cy I today-1 here [come I today; /somebody you someday here [go you coming3]]"),
                read_talk("go I; /@cy I today-1 here [come I today; come you coming3]")]:
            self.assertIsNone(number_of_first(TOLD, (1,), SHIFT, other))

    def test_first_talks_are_all_that_say_the_same_but_for_the_manner(self):
        rng = random.Random(93)
        for talk, tongue, report_path in talks_with_reports(rng, 40, 2, 2):
            if not 0 < count_first_talks(talk, report_path, tongue) < 50:
                continue
            talks = list(first_talks(talk, report_path, tongue))
            first = rng.choice(talks)
            for path, index in within(talk, report_path):
                told = [word_at(other, path, index) for other in talks]
                for word in [("I",), ("you",), ("self",), ("today", 0), ("today", 1), ("that day", 0), ("here",), ("there",)]:
                    try:
                        changed = with_word(first, path, index, word)
                    except ValueError:
                        continue
                    same = bare_same(talk, changed, tongue) is None
                    self.assertEqual(same, word in told)
                    self.assertEqual(number_of_first(talk, report_path, tongue, changed) is not None, same)

    def test_rewordings_of_the_manner_are_first_talks(self):
        # Without facts the choices of a rewording are first words, for words that the menu has.
        rng = random.Random(94)
        for talk, tongue, report_path in talks_with_reports(rng, 25, 2, 2):
            manners = list(told_manners(talk))
            manners[report_paths(talk).index(report_path)] = "own"
            menu = Menu(["ann", "bob", "cy"], ["rome", "paris"])
            count = count_first_talks(talk, report_path, tongue)
            inside = within(talk, report_path)
            many = 0
            for new in all_rewordings(talk, tongue, Facts([]), menu, manners=manners):
                many += 1
                if many > 40:
                    break
                outside = [(path, index) for path, index, _ in words_of(talk) if (path, index) not in inside]
                kept = all(word_at(new, *place) == word_at(talk, *place) for place in outside)
                self.assertEqual(number_of_first(talk, report_path, tongue, new) is not None, kept)
            if count == 0:
                self.assertEqual(many, 0)

    def test_a_first_talk_says_alone_what_was_heard(self):
        rng = random.Random(95)
        for talk, tongue, report_path in talks_with_reports(rng, 30):
            for first in itertools.islice(first_talks(talk, report_path, tongue), 3):
                alone = said_alone(first, report_path)
                self.assertEqual(alone.rows, row_at(first, report_path).rows)
                self.assertEqual(len(list(rows_of(alone))), sum(
                    1 for path, _ in rows_of(talk) if len(path) > len(report_path) and path[:len(report_path)] == report_path))

    def test_all_tongues(self):
        for tongue in TONGUES:
            for number in range(count_first_talks(TOLD, (1, 1), tongue)):
                new = first_talk_at(TOLD, (1, 1), tongue, number)
                for situation, values in many_situations(random.Random(1), 3):
                    heard = told_talk(TOLD, situation, tongue, values)[1][6][1][6]
                    self.assertEqual(told_talk(new, situation, tongue, values)[1][6][1][6], heard)


if __name__ == "__main__":
    unittest.main()
