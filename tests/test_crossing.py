"""[5.5] to [5.7], [5.11]: talks put over to other tongues."""

import itertools
import random
import types
import unittest

from tests.helper import SHIFT, STAY, TONGUES, UNKNOWN_WORDS, Case, come, nested, random_talk, report
from tests.test_tonguegroups import NO_SEQUENCES, terms_of, tongues
from whosetomorrow.crossing import put_over, safe_words, words_to_change
from whosetomorrow.errors import BadTongues, MeansNothing, NoPath, NoSafeWord
from whosetomorrow.forms import bare_form, form_of
from whosetomorrow.levels import inner_level
from whosetomorrow.menus import Menu
from whosetomorrow.situations import Tongue
from whosetomorrow.talks import Plain, Report, Talk
from whosetomorrow.talktext import read_talk, talk_text
from whosetomorrow.talkways import row_at, words_of
from whosetomorrow.termlevels import outer_terms, term_said
from whosetomorrow.tonguegroups import forms_by, shifts_that_matter
from whosetomorrow.words import is_unknown, kind_of

MENU = Menu(["ann", "bob"], ["rome"], [3, 4])


def level_there(form, path, tongue, manners=None):
    """Return the level under a tongue at a path of a form; manners by path stand for those of the form."""
    level, rows = outer_terms(), form
    for depth, entry in enumerate(path[:-1]):
        row = rows[entry]
        manner = row[5] if manners is None else manners[path[:depth + 1]]
        level = inner_level(level, row[1:5], manner, tongue)
        rows = row[6]
    return level


def is_safe_there(form, path, word, term, used, manners=None):
    """Tell whether a word has a term under all tongues at the levels that the form makes."""
    for tongue in used:
        try:
            if term_said(level_there(form, path, tongue, manners), word) != term:
                return False
        except MeansNothing:
            return False
    return True


def small_talk(rng):
    """Return a random talk of few reports."""
    talk = random_talk(rng, 3, 2)
    while talk.reports > 3:
        talk = random_talk(rng, 3, 2)
    return talk


def nested_persons(rng):
    """Return a talk of a few reports within each other, whose words are of persons."""
    words = [("I",), ("you",), ("name", "ann"), ("name", "dot")]
    rows = [come(rng.choice(words[:2]))]
    for _ in range(rng.randint(2, 4)):
        manner = rng.choice(["own", "indirect", "indirect"])
        rows = [Report(rng.choice(words), rng.choice(words), ("date", 1), ("place", "rome"), manner, rows)]
    return Talk(rows)


class SafeWordsTest(Case):
    def test_against_the_meaning_of_each_word_of_the_menu(self):
        rng = random.Random(921)
        for at in range(48):
            talk, meant = random_talk(rng, 3, 2), TONGUES[at % 16]
            used = rng.sample(TONGUES, rng.randint(1, 4))
            form = form_of(talk, meant)
            terms = terms_of(form)
            changed = []
            for path, index, word in words_of(talk):
                told = safe_words(talk, meant, rng.choice([list, tuple])(path), index, used, MENU)
                if is_unknown(word):
                    self.assertEqual(told, ())
                    continue
                term = terms[(path, index)]
                self.assertEqual(told, tuple(
                    other for other in MENU.words_for(kind_of(word)) if is_safe_there(form, path, other, term, used)))
                if not is_safe_there(form, path, word, term, used):
                    changed.append((path, index))
            self.assertEqual(list(words_to_change(talk, meant, used)), changed)

    def test_named_edges(self):
        talk = Talk([report("indirect", come(("I",), ("here",), ("today", 1)), who=("I",)), come(("I",))])
        # The one who tells is the teller, so that I is safe, and self and told or a name are or are not.
        self.assertEqual(safe_words(talk, STAY, (0, 0), 0, TONGUES, MENU), (("I",), ("self",)))
        self.assertEqual(safe_words(talk, STAY, (1,), 0, TONGUES, MENU), (("I",),))
        self.assertEqual(safe_words(talk, STAY, (0, 0), 1, TONGUES, MENU), ())
        self.assertEqual(safe_words(talk, SHIFT, (0, 0), 1, TONGUES, MENU), (("there",), ("place", "rome")))
        self.assertEqual(safe_words(talk, SHIFT, (0, 0), 2, TONGUES, MENU), (
            ("that day", 1), ("then coming", 4), ("date", 4)))
        self.assertEqual(safe_words(talk, STAY, (0, 0), 2, [STAY], MENU), (("today", 1),))
        unknown = Talk([Report(*[UNKNOWN_WORDS[at] for at in (0, 0, 1, 2)], "indirect", [come(("self",))])])
        for index in range(4):
            self.assertEqual(safe_words(unknown, STAY, (0,), index, TONGUES, MENU), ())
        self.assertEqual(safe_words(unknown, STAY, (0, 0), 0, TONGUES, MENU), (("self",),))
        self.assertEqual(safe_words(unknown, STAY, (0, 0), 0, [SHIFT], MENU), (("I",), ("self",)))

    def test_no_path_ahead_of_bad_tongues(self):
        talk = Talk([come(("I",))])
        for path, index, number in [(None, 0, 0), ((1,), 0, 0), ((0, 0), 0, 1), ((0,), 1, 1), ((0,), True, 1)]:
            self.refused(NoPath(number), safe_words, talk, STAY, path, index, None, MENU)
        for thing in NO_SEQUENCES:
            self.refused(BadTongues(0), safe_words, talk, STAY, (0,), 0, thing, MENU)
            self.refused(BadTongues(0), words_to_change, talk, STAY, thing)
            self.refused(BadTongues(0), put_over, talk, STAY, thing, MENU)
        self.refused(BadTongues(1), words_to_change, talk, STAY, [STAY, None])
        self.assertIsInstance(words_to_change(talk, STAY, TONGUES), types.GeneratorType)


class PutOverTest(Case):
    def test_the_example(self):
        talk = read_talk("/@cy I today-1 here (come I today+1)")
        self.assertEqual(shifts_that_matter(talk), (0, 2))
        self.assertEqual([len(group) for _, group in forms_by(talk, TONGUES)], [4] * 4)
        over = put_over(talk, STAY, [STAY, SHIFT], Menu())
        self.assertEqual(talk_text(over), "/@cy I today-1 here (come told that+2)")

    def test_the_meant_form_and_no_more_changes_than_needed(self):
        rng = random.Random(922)
        over = lacking = changes = 0
        for at in range(160):
            talk, meant = random_talk(rng, 3, 2), TONGUES[at % 16]
            used = rng.sample(TONGUES, rng.randint(1, 3))
            menu = rng.choice([MENU, Menu(), Menu(["ann"])])
            form = form_of(talk, meant)
            places = list(words_to_change(talk, meant, used))
            choices = [safe_words(talk, meant, *place, used, menu) for place in places]
            missing = [place for place, words in zip(places, choices) if not words]
            if missing:
                lacking += 1
                self.refused(NoSafeWord(*missing[0]), put_over, talk, meant, used, menu)
                self.refused(NoSafeWord(*missing[0]), put_over, talk, meant, used, menu, free=False)
                continue
            over += 1
            made = put_over(talk, meant, used, menu)
            self.assertIsInstance(made, Talk)
            for tongue in used:
                self.assertEqual(form_of(made, tongue), form)
            firsts = {place: words[0] for place, words in zip(places, choices)}
            for (path, index, word), (_, _, old) in zip(words_of(made), words_of(talk)):
                self.assertEqual(word, firsts.get((path, index), old))
            changes += len(places)
        self.assertGreater(min(over, lacking, changes), 20)

    def test_a_word_not_safe_is_safe_in_no_other_talk(self):
        # Whatever words stand further out, a word of the old talk or the menu that is not safe changes the form.
        rng = random.Random(923)
        pool = {"person": [("I",), ("you",), ("self",), ("told",), ("name", "ann")],
                "day": [("today", 0), ("today", 1), ("that day", 0), ("coming", 3)], "place": [("here",), ("there",)]}
        for at in range(12):
            talk = Talk([Report(
                rng.choice(pool["person"][:2]), rng.choice(pool["person"][:2]), ("today", 0), ("here",), "indirect", [
                    come(rng.choice(pool["person"])), Plain("go", [rng.choice(pool["day"])])])])
            meant, used = TONGUES[at], rng.sample(TONGUES, 2)
            form = form_of(talk, meant)
            found = []
            rows = [list(dict.fromkeys([word] + pool[kind_of(word)])) for _, _, word in words_of(talk)]
            for words in itertools.product(*rows):
                try:
                    other = Talk([Report(*words[:4], "indirect", [come(words[4]), Plain("go", [words[5]])])])
                except ValueError:
                    continue
                if all(form_of(other, tongue) == form for tongue in used):
                    found.append(sum(one != old for one, (_, _, old) in zip(words, words_of(talk))))
            menu = Menu(["ann"])
            try:
                made = put_over(talk, meant, used, menu)
            except NoSafeWord:
                self.assertEqual(found, [])
                continue
            many = sum(one != old for (_, _, one), (_, _, old) in zip(words_of(made), words_of(talk)))
            self.assertEqual(many, len(list(words_to_change(talk, meant, used))))
            self.assertTrue(all(many <= count for count in found))

    def test_one_tongue_alone(self):
        rng = random.Random(924)
        for _ in range(40):
            talk, meant = random_talk(rng, 3), rng.choice(TONGUES)
            self.assertEqual(put_over(talk, meant, [meant], Menu()), talk)
            self.assertEqual(put_over(talk, meant, (meant, meant), Menu(), free=True), talk)
            self.assertEqual(list(words_to_change(talk, meant, [meant])), [])

    def test_free_is_passed_by_name(self):
        with self.assertRaises(TypeError):
            put_over(Talk([come()]), STAY, [STAY], Menu(), True)


def turned(manner):
    """Return the other manner."""
    return "own" if manner == "indirect" else "indirect"


def free_over(rows, form, path, manners, whole, used, menu):
    """Put rows over as [5.7] tells, worked out from the whole meant form and manners by path; raise a pair if not."""
    made = []
    for at, row in enumerate(rows):
        here = path + (at,)
        words = []
        for index, word in enumerate(row.words if isinstance(row, Plain) else row.parts):
            terms = form[at][2] if isinstance(row, Plain) else form[at][1:5]
            if not is_unknown(word) and not is_safe_there(whole, here, word, terms[index], used, manners):
                safe = [other for other in menu.words_for(kind_of(word))
                        if is_safe_there(whole, here, other, terms[index], used, manners)]
                if not safe:
                    raise LookupError(here, index)
                word = safe[0]
            words.append(word)
        if isinstance(row, Plain):
            made.append(Plain(row.deed, words))
            continue
        try:
            manner = row.manner
            inner = free_over(row.rows, form[at][6], here, {**manners, here: manner}, whole, used, menu)
        except LookupError as first:
            try:
                manner = turned(row.manner)
                inner = free_over(row.rows, form[at][6], here, {**manners, here: manner}, whole, used, menu)
            except LookupError:
                raise first from None
        made.append(Report(*words, manner, inner))
    return made


class FreePutOverTest(Case):
    def test_as_told_row_by_row(self):
        rng = random.Random(925)
        over = lacking = turns = 0
        for at in range(1200):
            talk, meant = random_talk(rng, 4, 2) if at % 12 == 0 else nested_persons(rng), TONGUES[at % 16]
            used = rng.sample(TONGUES, rng.randint(1, 3) if at % 12 == 0 else 1)
            menu = rng.choice([MENU, Menu(), Menu(["ann"])])
            form = form_of(talk, meant)
            try:
                told = Talk(free_over(talk.rows, form, (), {}, form, used, menu))
            except LookupError as error:
                lacking += 1
                self.refused(NoSafeWord(*error.args), put_over, talk, meant, used, menu, free=True)
                continue
            over += 1
            made = put_over(talk, meant, used, menu, free=True)
            self.assertEqual(made, told)
            for tongue in used:
                self.assertEqual(bare_form(form_of(made, tongue)), bare_form(form))
            turns += [row.manner for row in reports(made.rows)] != [row.manner for row in reports(talk.rows)]
        self.assertGreater(min(over, lacking, turns), 5)

    def test_some_choice_of_manners_exactly_if_a_talk_is_returned(self):
        rng = random.Random(926)
        for at in range(60):
            talk, meant = small_talk(rng) if at % 3 == 0 else nested_persons(rng), TONGUES[at % 16]
            used = rng.sample(TONGUES, rng.randint(1, 2))
            form = form_of(talk, meant)
            paths = [path for path in terms_paths(talk)]
            can = False
            for manners in itertools.product(["own", "indirect"], repeat=len(paths)):
                told = dict(zip(paths, manners))
                can = can or all(
                    is_unknown(word) or any(
                        is_safe_there(form, path, other, terms_of(form)[(path, index)], used, told)
                        for other in [word] + list(MENU.words_for(kind_of(word))))
                    for path, index, word in words_of(talk))
            try:
                put_over(talk, meant, used, MENU, free=True)
                self.assertTrue(can)
            except NoSafeWord:
                self.assertFalse(can)

    def test_manners_are_turned_only_where_they_must_be(self):
        other = Tongue(False, True, False, False)
        deep = report("indirect", come(("you",)), who=("name", "eve"), whom=("name", "fay"))
        talk = Talk([report("indirect", deep, who=("you",)), report("indirect", come(("self",)))])
        # Where you shifts and I stays, the outermost hearer is said within two reports by I, if the first is in own words.
        self.refused(NoSafeWord((0, 0, 0), 0), put_over, talk, STAY, [other], Menu())
        made = put_over(talk, STAY, [other], Menu(), free=True)
        self.assertEqual([row.manner for row in reports(made.rows)], ["own", "indirect", "indirect"])
        self.assertEqual(row_at(made, (0, 0, 0)), come(("I",)))
        self.assertEqual(bare_form(form_of(made, other)), bare_form(form_of(talk, STAY)))
        self.assertEqual(put_over(talk, STAY, [other, STAY], Menu(), free=True), made)
        # No manner does where I shifts, too.
        self.refused(NoSafeWord((0, 0, 0), 0), put_over, talk, STAY, [other, SHIFT], Menu(), free=True)
        self.assertEqual(put_over(talk, STAY, [STAY], Menu(), free=True), talk)

    def test_own_words_turned_to_indirect_ones(self):
        other = Tongue(True, False, False, False)
        deep = report("indirect", come(("I",)), who=("name", "eve"), whom=("name", "fay"))
        talk = Talk([report("own", deep, who=("you",))])
        self.refused(NoSafeWord((0, 0, 0), 0), put_over, talk, STAY, [other], Menu())
        made = put_over(talk, STAY, [other], Menu(), free=True)
        self.assertEqual([row.manner for row in reports(made.rows)], ["indirect", "indirect"])
        self.assertEqual(row_at(made, (0, 0, 0)), come(("you",)))

    def test_reports_within_are_free_anew_in_each_manner(self):
        other = Tongue(False, True, False, False)
        deep = report("indirect", come(("you",)), who=("name", "eve"), whom=("name", "fay"))
        talk = Talk([report("indirect", report("indirect", deep, who=("you",)), whom=("you",))])
        made = put_over(talk, STAY, [other], Menu(), free=True)
        self.assertEqual([row.manner for row in reports(made.rows)], ["indirect", "own", "indirect"])
        self.assertEqual(row_at(made, (0, 0)).who, ("you",))
        self.assertEqual(row_at(made, (0, 0, 0, 0)), come(("I",)))

    def test_the_error_of_the_own_manner(self):
        # Own words lack a word for the first plain saying, indirect ones for the second.
        talk = Talk([Report(("name", "cy"), ("name", "dot"), ("today", 0), ("here",), "own", [
            come(("I",)), come(("today", 0))])])
        self.assertEqual(put_over(talk, STAY, TONGUES, Menu(), free=True), talk)
        talk = Talk([report("indirect", come(("today", 0)), come(("I",)))])
        self.refused(NoSafeWord((0, 0), 0), put_over, talk, STAY, TONGUES, Menu(), free=True)
        talk = Talk([report("indirect", come(("self",)), come(("I",)))])
        self.refused(NoSafeWord((0, 1), 0), put_over, talk, STAY, TONGUES, Menu(), free=True)
        self.assertEqual(put_over(Talk([nested(4)]), STAY, TONGUES, Menu(), free=True), Talk([nested(4)]))


def reports(rows):
    """Return all reports of rows in the order of reading."""
    found = []
    for row in rows:
        if isinstance(row, Report):
            found.append(row)
            found.extend(reports(row.rows))
    return found


def terms_paths(talk):
    """Return the paths of all reports."""
    return sorted({path[:depth] for path, _, _ in words_of(talk) for depth in range(1, len(path) + 1)
                   if isinstance(row_at(talk, path[:depth]), Report)})


if __name__ == "__main__":
    unittest.main()
