"""[6.3] to [6.5]: rewordings and normal talks."""

import itertools
import random
import types
import unittest

from tests.factkit import CLASH, NONE, D, FactCase, fitting_facts
from tests.helper import (
    NO_NAMES, SHIFT, STAY, TONGUES, UNKNOWN_WORDS, come, nested, random_talk, random_word, report,
)
from tests.test_sure import trials
from tests.test_tonguegroups import terms_of
from whosetomorrow.errors import BadManners, BadTalk, NoFit, NoWord
from whosetomorrow.facts import Facts
from whosetomorrow.forms import bare_form, form_of, form_value
from whosetomorrow.levels import inner_level
from whosetomorrow.menus import Menu, menu_of
from whosetomorrow.rewording import (
    Differs, all_rewordings, choice_rows, count_rewordings, manners_of, normal_talk, possible_manners, reworded,
    rewording_fault, unsayable,
)
from whosetomorrow.rightwords import is_right, right_words
from whosetomorrow.situations import Situation
from whosetomorrow.sure import sure_form, sure_same
from whosetomorrow.talks import Plain, Report, Talk
from whosetomorrow.talkways import names_in, places_in, row_at, rows_of, with_row, with_word, words_of
from whosetomorrow.termlevels import outer_terms, terms_at
from whosetomorrow.terms import value_of
from whosetomorrow.words import is_unknown, kind_of

MENU = Menu(["ann", "bob"], ["rome"], [3, 10])
UNKNOWN = [UNKNOWN_WORDS[at] for at in (0, 0, 1, 2)]
ASKERS = [choice_rows, count_rewordings, all_rewordings, reworded, unsayable]
FACTS = [
    NONE, Facts([("same", ("T",), ("name", "ann")), ("weekday", D, 3)]),
    Facts([("same", ("T",), ("H",)), ("between", ("date", 3), D, 0, 0), ("same", ("Z",), ("place", "rome"))]),
]


def small_talk(rng, most=10):
    """Return a random talk with few word places and reports."""
    if rng.random() < 0.6:
        manners = [rng.choice(["own", "indirect", "indirect"]) for _ in range(rng.randint(1, 3))]
        kinds = ["person", "person", "day", "place"]
        rows = [come(*[random_word(rng, kind, manners[-1] == "indirect", False) for kind in rng.sample(kinds, 2)])]
        for at in range(len(manners) - 1, -1, -1):
            indirect = at > 0 and manners[at - 1] == "indirect"
            rows = [Report(*[random_word(rng, kind, indirect, True) for kind in kinds], manners[at], rows)]
        return Talk(rows)
    while True:
        talk = random_talk(rng, 3, 2)
        if len(list(words_of(talk))) <= most and talk.reports <= 3:
            return talk


def level_there(talk, path, tongue, into, manners):
    """Return the level of a new talk whose reports have the terms of the old one, worked out from the form."""
    rows, numbers = form_of(talk, tongue), {}
    for at, (here, _) in enumerate([(here, row) for here, row in rows_of(talk) if isinstance(row, Report)]):
        numbers[here] = at
    level = outer_terms()
    for depth in range(1, len(path)):
        row = rows[path[depth - 1]]
        level = inner_level(level, row[1:5], manners[numbers[path[:depth]]], into)
        rows = row[6]
    return level


def cases(seed, many):
    """Yield (rng, talk, tongue, facts, menu, into, manners); into and manners may be None."""
    rng = random.Random(seed)
    for at in range(many):
        talk = small_talk(rng)
        facts = rng.choice(FACTS + [fitting_facts(rng, 5)])
        into = rng.choice([None, None, rng.choice(TONGUES)])
        turned = tuple({"own": "indirect", "indirect": "own"}[manner] for manner in manners_of(talk))
        manners = rng.choice([None, turned, tuple(rng.choice(["own", "indirect"]) for _ in range(talk.reports))])
        yield rng, talk, TONGUES[at % 16], facts, rng.choice([MENU, Menu(), menu_of(talk)]), into, manners


class ChoicesTest(FactCase):
    def test_choices_in_their_order_and_their_product(self):
        empty = old = 0
        for rng, talk, tongue, facts, menu, into, manners in cases(1101, 120):
            told = choice_rows(talk, tongue, facts, menu, into=into, manners=manners)
            self.tuples_only(told)
            terms = terms_of(form_of(talk, tongue))
            places = [(path, index) for path, index, word in words_of(talk) if not is_unknown(word)]
            self.assertEqual([(path, index) for path, index, _ in told], places)
            words = {(path, index): word for path, index, word in words_of(talk)}
            product, missing = 1, []
            for path, index, choices in told:
                level = level_there(talk, path, tongue, into or tongue, manners or manners_of(talk))
                term, word = terms[(path, index)], words[(path, index)]
                right = list(right_words(level, term, facts, menu))
                if is_right(level, term, facts, word):
                    right = [word] + [other for other in right if other != word]
                    old += 1
                self.assertEqual(choices, tuple(right))
                product *= len(choices)
                if not choices:
                    missing.append((path, index))
            empty += len(missing) > 0
            options = {"into": into, "manners": rng.choice([list, tuple])(manners) if manners else manners}
            self.assertEqual(count_rewordings(talk, tongue, facts, menu, **options), product)
            self.assertEqual(unsayable(talk, tongue, facts, menu, **options), tuple(missing))
            if missing:
                self.refused(NoWord(*missing[0]), reworded, talk, tongue, facts, menu, **options)
                self.assertEqual(list(all_rewordings(talk, tongue, facts, menu, **options)), [])
        self.assertGreater(min(empty, old), 8)

    def test_all_rewordings(self):
        checked = 0
        for _, talk, tongue, facts, menu, into, manners in cases(1102, 150):
            options = {"into": into, "manners": manners}
            count = count_rewordings(talk, tongue, facts, menu, **options)
            if not 0 < count <= 200:
                continue
            checked += 1
            choices = {(path, index): row for path, index, row in choice_rows(talk, tongue, facts, menu, **options)}
            found = list(all_rewordings(talk, tongue, facts, menu, **options))
            self.assertEqual(len(found), count)
            self.assertEqual(found[0], reworded(talk, tongue, facts, menu, **options))
            order = []
            for made in found:
                self.assertIsInstance(made, Talk)
                self.assertIsNone(rewording_fault(talk, made, tongue, facts, into=into))
                self.assertEqual(manners_of(made), manners or manners_of(talk))
                order.append([choices[(path, index)].index(word) for path, index, word in words_of(made)
                              if not is_unknown(word)])
            self.assertEqual(order, sorted(order))
            self.assertEqual(len({tuple(row) for row in order}), count)
            for fit in trials(random.Random(3), facts, 3):
                heard = form_value(bare_form_rows(talk, tongue), *fit)
                for made in found[:20]:
                    self.assertEqual(form_value(bare_form_rows(made, into or tongue), *fit), heard)
        self.assertGreater(checked, 40)

    def test_a_word_is_a_choice_exactly_if_putting_it_makes_a_rewording(self):
        checked = 0
        for _, talk, tongue, facts, menu, into, manners in cases(1103, 60):
            options = {"into": into, "manners": manners}
            if not count_rewordings(talk, tongue, facts, menu, **options):
                continue
            checked += 1
            base = reworded(talk, tongue, facts, menu, **options)
            for path, index, choices in choice_rows(talk, tongue, facts, menu, **options):
                for word in menu.words_for(kind_of(choices[0])):
                    try:
                        fault = rewording_fault(talk, with_word(base, path, index, word), tongue, facts, into=into)
                    except BadTalk:
                        fault = "outside"
                    self.assertEqual(fault is None, word in choices, (path, index, word))
        self.assertGreater(checked, 15)

    def test_the_old_word_first(self):
        talk = Talk([come(("name", "eve"), ("coming", 3), ("I",))])
        self.assertEqual(choice_rows(talk, STAY, FACTS[1], MENU), (
            ((0,), 0, (("name", "eve"),)), ((0,), 1, (("coming", 3), ("today", 7))), ((0,), 2, (("I",), ("name", "ann")))))
        # Levels have the terms of the old words, even where a word place has no choice.
        talk = Talk([report("indirect", come(("here",), ("you",)), whom=("you",))])
        self.assertEqual(choice_rows(talk, STAY, NONE, Menu(), manners=["own"])[3:], (
            ((0,), 3, (("place", "rome"),)), ((0, 0), 0, ()), ((0, 0), 1, (("you",),))))
        self.assertEqual(unsayable(talk, STAY, NONE, Menu(), manners=["own"]), (((0, 0), 0),))

    def test_unknown_words_have_no_choices_and_stay(self):
        talk = Talk([Report(*UNKNOWN, "own", [come(("I",))])])
        self.assertEqual(choice_rows(talk, STAY, NONE, MENU), (((0, 0), 0, (("I",),)),))
        made = reworded(talk, STAY, NONE, MENU, manners=("indirect",))
        self.assertEqual(made, Talk([Report(*UNKNOWN, "indirect", [come(("self",))])]))
        only = Talk([Report(*UNKNOWN, "own", [come()])])
        self.assertEqual(choice_rows(only, STAY, NONE, MENU), ())
        self.assertEqual(count_rewordings(only, STAY, NONE, MENU), 1)
        self.assertEqual(list(all_rewordings(only, STAY, NONE, MENU)), [only])
        self.assertEqual(reworded(only, STAY, NONE, MENU), only)

    def test_into_another_tongue(self):
        talk = Talk([report("indirect", come(("I",), ("today", 1)), who=("you",), whom=("I",), day=("today", -1))])
        made = reworded(talk, STAY, NONE, Menu(), into=SHIFT)
        self.assertEqual(made.rows[0].rows[0].words, (("you",), ("today", 2)))
        self.assertEqual(reworded(made, SHIFT, NONE, Menu(), into=SHIFT), made)
        self.assertEqual(reworded(made, SHIFT, NONE, Menu(), into=None), made)
        self.assertIsNone(rewording_fault(talk, made, STAY, NONE, into=SHIFT))
        self.assertIsInstance(rewording_fault(talk, made, STAY, NONE), Differs)

    def test_many_rewordings_need_not_be_gone_through(self):
        talk = Talk([nested(4, inmost=come(*[("self",)] * 4))] * 3)
        found = all_rewordings(talk, SHIFT, NONE, Menu(["cy"]))
        self.assertIsInstance(found, types.GeneratorType)
        self.assertEqual(next(found), talk)
        self.assertGreater(count_rewordings(talk, SHIFT, NONE, Menu(["cy"])), 10 ** 6)

    def test_bad_manners_with_each_index(self):
        talk = Talk([report("own", report("indirect", come())), report("own", come())])
        for call in ASKERS:
            for thing in (True, 3, "own", "", {}, {"own": 1}, iter(["own"] * 3), Facts([])):
                self.refused(BadManners(0), call, talk, STAY, NONE, MENU, manners=thing)
            for bad in NO_NAMES + ["Own", "other"]:
                for at in range(3):
                    row = ["own"] * at + [bad] + [None] * 3
                    self.refused(BadManners(at), call, talk, STAY, NONE, MENU, manners=row)
                    self.refused(BadManners(at), call, talk, STAY, NONE, MENU, manners=tuple(row[:at]))
            self.refused(BadManners(3), call, talk, STAY, NONE, MENU, manners=["own"] * 4)
            self.refused(BadManners(3), call, talk, STAY, NONE, MENU, manners=["own"] * 3 + [None])
            self.refused(BadManners(0), call, Talk([come()]), STAY, NONE, MENU, manners=["own"])
            self.refused(NoFit((0, 2)), call, talk, STAY, CLASH, MENU, manners=3)
        self.assertEqual(count_rewordings(Talk([come()]), STAY, NONE, MENU, manners=[]), 1)

    def test_options_are_passed_by_name(self):
        for call in ASKERS:
            with self.assertRaises(TypeError):
                call(Talk([come()]), STAY, NONE, MENU, None)


def bare_form_rows(talk, tongue):
    """Return the form of a talk with all manners alike."""
    def alike(rows):
        return tuple(row if row[0] == "plain" else row[:5] + ("own", alike(row[6])) for row in rows)
    return alike(form_of(talk, tongue))


class MannersTest(FactCase):
    def test_manners_of(self):
        talk = Talk([report("own", report("indirect", come()), come()), come(), report("indirect", report("own", come()))])
        self.assertEqual(manners_of(talk), ("own", "indirect", "indirect", "own"))
        self.assertEqual(manners_of(Talk([come()])), ())

    def test_possible_manners_against_trying_all(self):
        turned = 0
        for rng, talk, tongue, facts, menu, into, _ in cases(1104, 60):
            told = list(possible_manners(talk, tongue, facts, menu, into=into))
            tried = [
                manners for manners in itertools.product(["own", "indirect"], repeat=talk.reports)
                if count_rewordings(talk, tongue, facts, menu, into=into, manners=manners) > 0]
            self.assertEqual(told, tried)
            turned += 1 < len(told) < 2 ** talk.reports
        self.assertGreater(turned, 4)

    def test_without_reports(self):
        found = possible_manners(Talk([come(("I",), ("name", "eve"))]), STAY, NONE, Menu(), into=SHIFT)
        self.assertIsInstance(found, types.GeneratorType)
        self.assertEqual(list(found), [()])

    def test_their_order(self):
        talk = Talk([report("own", come()), report("own", report("own", come()))])
        self.assertEqual(
            list(possible_manners(talk, STAY, NONE, Menu())), list(itertools.product(["own", "indirect"], repeat=3)))
        self.refused(NoFit((0, 2)), possible_manners, talk, STAY, CLASH, Menu())


class RewordingFaultTest(FactCase):
    def test_shape(self):
        a, go = come(("I",), ("today", 0)), Plain("go", [("I",), ("today", 0)])
        base = Talk([a, report("own", a), Report(*UNKNOWN, "own", [a])])
        for other in [
                Talk([a]), Talk(list(base.rows) + [a]), with_row(base, (0,), go), with_row(base, (0,), come(("I",))),
                with_row(base, (0,), come(("I",), ("today", 0), ("here",))), with_row(base, (0,), report("own", a)),
                with_row(base, (1,), a), with_row(base, (1,), report("own", a, a)), with_row(base, (1, 0), go),
                with_row(base, (0,), come(("today", 0), ("I",))), with_row(base, (0,), come(("I",), ("here",))),
                with_word(base, (1,), 0, ("somebody",)), with_word(base, (2,), 1, ("I",)),
                with_word(base, (2,), 2, ("today", 0)), with_word(base, (2,), 3, ("here",)),
                Talk([base.rows[1], a, base.rows[2]])]:
            self.assertEqual(rewording_fault(base, other, STAY, NONE), "shape")
            self.assertEqual(rewording_fault(other, base, STAY, NONE), "shape")
            self.refused(NoFit((0, 2)), rewording_fault, base, other, STAY, CLASH)
        self.assertIsNone(rewording_fault(base, base, STAY, NONE))

    def test_manners_and_known_words_may_differ(self):
        old = Talk([report("own", come(("I",), ("today", 2)))])
        for manner, words in [
                ("own", [("I",), ("date", 5)]), ("indirect", [("self",), ("that day", 2)]), ("own", [("name", "cy"), ("date", 5)])]:
            new = Talk([report(manner, come(*words))])
            self.assertIsNone(rewording_fault(old, new, STAY, NONE))
        new = Talk([report("indirect", come(("I",), ("date", 5)))])
        self.assertIsNone(rewording_fault(old, new, STAY, NONE, into=SHIFT))
        told = rewording_fault(old, new, STAY, NONE)
        self.assertIsInstance(told, Differs)
        self.assertEqual((told.path, told.index), ((0, 0), 0))

    def test_the_first_place_and_a_fit_that_parts_the_two(self):
        rng = random.Random(1105)
        fine = differs = 0
        for at in range(200):
            tongue = TONGUES[at % 16]
            old = random_talk(rng, 3, 2)
            new = old
            for _ in range(rng.randint(0, 2)):
                places = [(path, index, word) for path, index, word in words_of(new) if not is_unknown(word)]
                if places:
                    path, index, word = rng.choice(places)
                    try:
                        new = with_word(new, path, index, random_word(rng, kind_of(word), len(path) > 1, False))
                    except BadTalk:
                        continue
            into = rng.choice([None, None, None, rng.choice(TONGUES)])
            facts = rng.choice(FACTS + [fitting_facts(rng, 5)])
            told = rewording_fault(old, new, tongue, facts, into=into)
            one, other = terms_of(form_of(old, tongue)), terms_of(form_of(new, into or tongue))
            unsure = [place for place in one if sure_same(facts, one[place], other[place]) is not None]
            if not unsure:
                fine += 1
                self.assertIsNone(told)
                continue
            differs += 1
            self.assertIsInstance(told, Differs)
            self.assertEqual((told.path, told.index), unsure[0])
            fit = (told.situation, told.value_rows)
            self.check_fit(facts, fit)
            self.assertNotEqual(value_of(one[unsure[0]], *fit), value_of(other[unsure[0]], *fit))
        self.assertGreater(min(fine, differs), 40)

    def test_a_result_keeps_what_it_is_given(self):
        path = [0]
        self.assertIs(Differs(path, 1, 2, 3).path, path)
        self.assertEqual(vars(Differs(value_rows=4, situation=3, index=2, path=1)),
                         {"path": 1, "index": 2, "situation": 3, "value_rows": 4})
        self.equal_only((Differs((0,), 1, 2, 3), Differs((0,), 1, 2, 3)), [
            Differs((1,), 1, 2, 3), Differs((0,), 0, 2, 3), Differs((0,), 1, 0, 3), Differs((0,), 1, 2, 0),
            Situation("ann", "bob", 1, "rome")])


class NormalTalkTest(FactCase):
    def test_a_rewording_and_its_own_normal_talk(self):
        changed = 0
        for _, talk, tongue, facts, menu, _, _ in cases(1106, 150):
            normal = normal_talk(talk, tongue, facts, menu)
            self.assertIsNone(rewording_fault(talk, normal, tongue, facts))
            self.assertEqual(manners_of(normal), manners_of(talk))
            self.assertEqual(normal_talk(normal, tongue, facts, menu), normal)
            changed += normal != talk
            for (path, index, word), (_, _, old) in zip(words_of(normal), words_of(talk)):
                if is_unknown(old):
                    self.assertEqual(word, old)
                    continue
                level = terms_at(talk, path, tongue)
                right = right_words(level, terms_of(form_of(talk, tongue))[(path, index)], facts, menu)
                self.assertEqual(word, right[0] if right else old)
        self.assertGreater(changed, 30)

    def test_equal_exactly_if_heard_alike_in_every_fit(self):
        rng = random.Random(1107)
        alike = unlike = 0
        for at in range(200):
            tongue = TONGUES[at % 16]
            old = small_talk(rng)
            facts = rng.choice(FACTS + [NONE, fitting_facts(rng, 5)])
            new = rng.choice(list(itertools.islice(all_rewordings(old, tongue, facts, menu_of(old)), 30)))
            if rng.random() < 0.5:
                places = [(path, index, word) for path, index, word in words_of(new) if not is_unknown(word)]
                if places:
                    path, index, word = rng.choice(places)
                    try:
                        new = with_word(new, path, index, random_word(rng, kind_of(word), len(path) > 1, False))
                    except BadTalk:
                        continue
            both = [word[1] for talk in (old, new) for _, _, word in words_of(talk) if word[0] == "date"]
            if len(set(both)) > 12:
                continue
            menu = Menu(sorted(set(names_in(old) + names_in(new))), sorted(set(places_in(old) + places_in(new))),
                        list(dict.fromkeys(both)))
            same = normal_talk(old, tongue, facts, menu) == normal_talk(new, tongue, facts, menu)
            self.assertEqual(same, sure_form(facts, form_of(old, tongue), form_of(new, tongue)) is None)
            if facts == NONE:
                self.assertEqual(same, form_of(old, tongue) == form_of(new, tongue))
            alike += same and old != new
            unlike += not same
        self.assertGreater(min(alike, unlike), 20)

    def test_named_edges(self):
        talk = Talk([come(("name", "ann"), ("coming", 3), ("name", "zoe"))])
        self.assertEqual(normal_talk(talk, STAY, FACTS[1], Menu()), Talk([come(("I",), ("today", 7), ("name", "zoe"))]))
        self.assertEqual(normal_talk(talk, STAY, NONE, Menu()), talk)
        talk = Talk([report("indirect", come(("self",), ("there",)), who=("you",), place=("here",))])
        self.assertEqual(row_at(normal_talk(talk, STAY, NONE, Menu()), (0, 0)), come(("you",), ("here",)))
        self.assertEqual(row_at(normal_talk(talk, SHIFT, NONE, Menu()), (0, 0)), come(("I",), ("here",)))
        self.assertEqual(bare_form(form_of(talk, STAY)), bare_form(form_of(normal_talk(talk, STAY, NONE, Menu()), STAY)))
        self.refused(NoFit((0, 2)), normal_talk, talk, STAY, CLASH, Menu())


if __name__ == "__main__":
    unittest.main()
