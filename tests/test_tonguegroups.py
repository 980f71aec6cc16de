"""[5.1] to [5.4]: tongues, what hangs on their shifts, and what is safe in them."""

import itertools
import random
import unittest

from tests.helper import NO_WHOLES, SHIFT, STAY, TONGUES, UNKNOWN_WORDS, Case, come, nested, random_talk, report
from whosetomorrow.errors import BadShift, BadTongues, NoPath
from whosetomorrow.forms import form_of
from whosetomorrow.hearing import hear_talk
from whosetomorrow.safety import Unsafe, is_safe, unsafe_place
from whosetomorrow.situations import Situation, Tongue
from whosetomorrow.strangers import unlike_situation
from whosetomorrow.talks import Report, Talk
from whosetomorrow.talkways import words_of
from whosetomorrow.termlevels import term_said, terms_at
from whosetomorrow.tonguegroups import check_tongues, flipped_tongue, forms_by, shifts_of_word, shifts_that_matter
from whosetomorrow.words import is_absolute, is_unknown, kind_of

NO_TONGUES = [None, True, "STAY", (False,) * 4, [False] * 4, 0, Situation("ann", "bob", 1, "rome"), Tongue]
NO_SEQUENCES = [None, True, 3, "", "tongue", {}, {0: STAY}, STAY, (), []]


def tongues(*figures):
    """Return tongues by the figures of their shifts, as 0110."""
    return tuple(Tongue(*[sign == "1" for sign in text]) for text in figures)


def groups_of(talk):
    """Return the groups of all tongues by the form of a talk, as tuples of shifts."""
    return [tuple(tongue.shifts for tongue in group) for _, group in forms_by(talk, TONGUES)]


class CheckTonguesTest(Case):
    def test_equal_ones_stand_once_at_the_place_of_the_first(self):
        rng = random.Random(901)
        for _ in range(200):
            passed = [Tongue(*rng.choice(TONGUES).shifts) for _ in range(rng.randint(1, 16))]
            told = check_tongues(rng.choice([list, tuple])(passed))
            self.assertIsInstance(told, tuple)
            firsts = [tongue for at, tongue in enumerate(passed) if tongue not in passed[:at]]
            self.assertEqual(len(told), len(firsts))
            for one, other in zip(told, firsts):
                self.assertIs(one, other)

    def test_how_many(self):
        self.assertEqual(check_tongues([STAY]), (STAY,))
        self.assertEqual(check_tongues(TONGUES), TONGUES)
        self.assertEqual(check_tongues([STAY] * 16), (STAY,))
        for thing in NO_SEQUENCES + [[STAY] * 17, TONGUES + (STAY,), [None] * 17]:
            self.refused(BadTongues(0), check_tongues, thing)

    def test_the_first_entry_that_is_none(self):
        for bad in NO_TONGUES:
            for at in (0, 1, 7, 15):
                row = [STAY] * 16
                row[at:] = [bad] + [None] * (15 - at)
                self.refused(BadTongues(at), check_tongues, row)
                self.refused(BadTongues(at), check_tongues, tuple([STAY] * at + [bad]))

    def test_every_function_with_tongues(self):
        talk = Talk([come()])
        for call in (forms_by, is_safe, unsafe_place):
            for thing in NO_SEQUENCES:
                self.refused(BadTongues(0), call, talk, thing)
            self.refused(BadTongues(2), call, talk, [STAY, SHIFT, None])

    def test_flipped_tongue(self):
        for tongue in TONGUES:
            for shift in range(4):
                other = flipped_tongue(tongue, shift)
                self.assertIsInstance(other, Tongue)
                unlike = [at for at in range(4) if other.shifts[at] != tongue.shifts[at]]
                self.assertEqual(unlike, [shift])
                self.assertEqual(flipped_tongue(other, shift), tongue)
            for thing in NO_WHOLES + [-1, 4]:
                self.refused(BadShift(), flipped_tongue, tongue, thing)


class FormsByTest(Case):
    def test_against_the_forms_under_all_tongues(self):
        rng = random.Random(902)
        for _ in range(100):
            talk = random_talk(rng)
            passed = rng.sample(TONGUES, rng.randint(1, 16))
            told = forms_by(talk, passed)
            self.tuples_only(told)
            forms = [form for form, _ in told]
            for at, form in enumerate(forms):
                self.assertNotIn(form, forms[:at])
            firsts = [passed.index(group[0]) for _, group in told]
            self.assertEqual(firsts, sorted(firsts))
            for form, group in told:
                self.assertEqual(list(group), [tongue for tongue in passed if form_of(talk, tongue) == form])
            self.assertEqual(sum(len(group) for _, group in told), len(passed))

    def test_the_couples_of_the_first_two_shifts_in_one_to_four_groups(self):
        me, you = come(("I",)), come(("you",))
        inner = report("indirect", me, who=("name", "dot"), whom=("name", "eve"))
        for rows, groups in [
                ([me], 1), ([report("indirect", me)], 2), ([report("indirect", you)], 2),
                ([report("indirect", me, you)], 4), ([report("indirect", me, who=("I",))], 1),
                ([inner, report("indirect", you)], 4)]:
            found = forms_by(Talk(rows), TONGUES)
            couples = {}
            for at, (_, group) in enumerate(found):
                for tongue in group:
                    couples.setdefault(tongue.shifts[:2], set()).add(at)
            self.assertEqual(len(found), groups)
            self.assertEqual([len(at) for at in couples.values()], [1] * 4)

    def test_two_shifts_together_change_what_neither_changes_alone(self):
        # In ann's own words to herself bob tells cy, within which the one who tells is "you".
        deep = report("indirect", come(("I",)), who=("you",), whom=("name", "dot"))
        talk = Talk([report("own", report("indirect", deep, who=("name", "bob"), whom=("name", "cy")),
                            who=("name", "ann"), whom=("name", "ann"))])
        path = (0, 0, 0, 0)
        terms = {
            tongue.shifts[:2]: term_said(terms_at(talk, path, tongue), ("I",)) for tongue in TONGUES}
        ann = ("name", "ann")
        self.assertEqual(terms, {
            (False, False): ann, (True, False): ann, (False, True): ann, (True, True): ("name", "cy")})
        self.assertEqual(shifts_of_word(talk, path, 0), (0, 1))
        self.assertEqual(shifts_of_word(talk, path[:3], 0), (1,))
        # The report's own who hangs on the second shift, so that there are three groups.
        self.assertEqual([len(group) for _, group in forms_by(talk, TONGUES)], [8, 4, 4])

    def test_three_groups_and_all_other_numbers(self):
        rng = random.Random(903)
        seen = set()
        for _ in range(400):
            talk = random_talk(rng, 3, 2)
            seen.add(len({tuple(sorted(shifts[:2] for shifts in group if shifts[2:] == (False, False)))
                          for group in groups_of(talk)} - {()}))
        self.assertEqual(seen, {1, 2, 3, 4})

    def test_one_form_exactly_if_the_three_hold(self):
        rng = random.Random(904)
        for _ in range(60):
            talk = random_talk(rng)
            kinds = {(path, index): kind_of(word) for path, index, word in words_of(talk)}
            terms = {}
            for tongue in TONGUES:
                terms[tongue.shifts] = terms_of(form_of(talk, tongue))
            for one, other in itertools.combinations(TONGUES, 2):
                alike = []
                for kind, picked in (("person", (0, 1)), ("day", (2,)), ("place", (3,))):
                    first = tuple(one.shifts[at] if at in picked else False for at in range(4))
                    second = tuple(other.shifts[at] if at in picked else False for at in range(4))
                    alike.append(all(
                        terms[first][place] == terms[second][place] for place in kinds if kinds[place] == kind))
                same = form_of(talk, one) == form_of(talk, other)
                self.assertEqual(same, all(alike))


def terms_of(form, path=()):
    """Return the terms of a form by their word places."""
    found = {}
    for at, row in enumerate(form):
        here = path + (at,)
        for index, term in enumerate(row[2] if row[0] == "plain" else row[1:5]):
            found[(here, index)] = term
        if row[0] == "report":
            found.update(terms_of(row[6], here))
    return found


class ShiftsTest(Case):
    def test_against_flipping_in_all_tongues(self):
        rng = random.Random(905)
        seen = set()
        for _ in range(60):
            talk = random_talk(rng)
            together = set()
            for path, index, word in words_of(talk):
                told = shifts_of_word(talk, rng.choice([list, tuple])(path), index)
                if is_unknown(word) or is_absolute(word):
                    self.assertEqual(told, ())
                    continue
                found = []
                for shift in range(4):
                    pairs = [(tongue, flipped_tongue(tongue, shift)) for tongue in TONGUES]
                    if any(term_said(terms_at(talk, path, one), word) != term_said(terms_at(talk, path, other), word)
                           for one, other in pairs):
                        found.append(shift)
                self.assertEqual(told, tuple(found))
                self.assertIn(told, {
                    "person": [(), (0,), (1,), (0, 1)], "day": [(), (2,)], "place": [(), (3,)]}[kind_of(word)])
                seen.add((kind_of(word), told))
                together |= set(told)
            self.assertEqual(shifts_that_matter(talk), tuple(sorted(together)))
        self.assertEqual(len(seen), 8)

    def test_each_kind_of_word(self):
        inner = come(("I",), ("you",), ("today", 1), ("here",))
        needy = come(("self",), ("told",), ("that day", 0), ("there",))
        weekdays = come(("coming", 3), ("last", 3), ("then coming", 3), ("then last", 3))
        absolute = come(("name", "ann"), ("date", 3), ("place", "rome"))
        talk = Talk([report("indirect", inner, needy, weekdays, absolute), inner, report("own", inner)])
        for path, told in [
                ((0, 0), [(0,), (1,), (2,), (3,)]), ((0, 1), [()] * 4), ((0, 2), [(2,), (2,), (), ()]),
                ((0, 3), [()] * 3), ((1,), [()] * 4), ((2, 0), [()] * 4), ((0,), [()] * 4)]:
            for index, shifts in enumerate(told):
                self.assertEqual(shifts_of_word(talk, path, index), shifts)
        self.assertEqual(shifts_that_matter(talk), (0, 1, 2, 3))
        unknown = Talk([Report(*[UNKNOWN_WORDS[at] for at in (0, 0, 1, 2)], "indirect", [come(("today", 0))])])
        for index in range(4):
            self.assertEqual(shifts_of_word(unknown, (0,), index), ())
        self.assertEqual(shifts_of_word(unknown, (0, 0), 0), (2,))
        self.assertEqual(shifts_that_matter(unknown), (2,))

    def test_deep_words_hang_on_two_shifts(self):
        # Two reports deep, I may be the inner who, which is the outer you, or the outermost teller.
        deep = report("indirect", come(("I",)), who=("you",))
        talk = Talk([report("indirect", deep)])
        self.assertEqual(shifts_of_word(talk, (0, 0, 0), 0), (0, 1))
        self.assertEqual(shifts_of_word(talk, (0, 0), 0), (1,))
        self.assertEqual(shifts_that_matter(talk), (0, 1))

    def test_where_a_shift_changes_nothing(self):
        talk = Talk([report("indirect", come(("I",), ("today", 3), ("here",)), who=("I",), day=("today", 0), place=("here",))])
        self.assertEqual(shifts_that_matter(talk), ())
        # Under a saw a shift may change nothing either: on the same coming day.
        saw = Talk([report("indirect", come(("coming", 3)), day=("date", 3))])
        self.assertEqual(shifts_that_matter(saw), (2,))

    def test_no_path(self):
        talk = Talk([come(("I",)), report("indirect", come())])
        for path, index, number in [
                (None, 0, 0), ((), 0, 0), ((2,), 0, 0), ((True,), 0, 0), ((0, 0), 0, 1), ((0,), 1, 1), ((0,), True, 1),
                ((1, 0), 0, 2), ((1,), 4, 1), ((1,), -1, 1), ((1,), None, 1)]:
            self.refused(NoPath(number), shifts_of_word, talk, path, index)


class SafetyTest(Case):
    def test_safe_exactly_if_all_forms_are_equal(self):
        rng = random.Random(906)
        safe = unsafe = 0
        for _ in range(150):
            talk = random_talk(rng, 3)
            passed = rng.choices(TONGUES, k=rng.randint(1, 5))
            forms = [form_of(talk, tongue) for tongue in passed]
            told = unsafe_place(talk, passed)
            self.assertIs(is_safe(talk, passed), all(form == forms[0] for form in forms))
            if told is None:
                safe += 1
                self.assertTrue(is_safe(talk, passed))
                continue
            unsafe += 1
            self.assertFalse(is_safe(talk, passed))
            self.assertIsInstance(told, Unsafe)
            self.assertEqual(told.one, passed[0])
            at = [number for number, form in enumerate(forms) if form != forms[0]][0]
            self.assertEqual(told.other, passed[at])
            one, other = terms_of(forms[0]), terms_of(forms[at])
            places = [place for place in one if one[place] != other[place]]
            self.assertEqual((told.path, told.index), places[0])
            self.assertEqual(list(one), [(path, index) for path, index, _ in words_of(talk)])
        self.assertGreater(min(safe, unsafe), 20)

    def test_safe_talks_are_heard_alike(self):
        talk = Talk([report("indirect", come(("self",), ("that day", 1), ("there",)))])
        self.assertTrue(is_safe(talk, TONGUES))
        heard = {repr(hear_talk(talk, unlike_situation([], [], None, 0)[0], tongue)) for tongue in TONGUES}
        self.assertEqual(len(heard), 1)

    def test_the_first_two_tongues_and_the_first_place(self):
        talk = Talk([come(("I",)), report("indirect", come(("here",), ("you",)), come(("I",)))])
        for passed, one, other, place in [
                (("0000", "1000", "0001"), "0000", "1000", ((1, 1), 0)),
                (("0000", "0001", "1000"), "0000", "0001", ((1, 0), 0)),
                (("0010", "0000", "0100"), "0010", "0100", ((1, 0), 1)),
                (("0000", "0000", "1101"), "0000", "1101", ((1, 0), 0))]:
            told = unsafe_place(talk, tongues(*passed))
            self.assertEqual(told, Unsafe(*tongues(one, other), *place))
        self.assertIsNone(unsafe_place(talk, tongues("0000", "0010")))
        self.assertIsNone(unsafe_place(Talk([nested(4)]), TONGUES))

    def test_a_result_keeps_what_it_is_given(self):
        path = [0]
        self.assertIs(Unsafe(1, 2, path, 3).path, path)
        self.assertEqual(vars(Unsafe(index=4, path=3, other=2, one=1)), {"one": 1, "other": 2, "path": 3, "index": 4})
        self.equal_only((Unsafe(STAY, SHIFT, (0,), 1), Unsafe(STAY, SHIFT, (0,), 1)), [
            Unsafe(SHIFT, SHIFT, (0,), 1), Unsafe(STAY, STAY, (0,), 1), Unsafe(STAY, SHIFT, (1,), 1),
            Unsafe(STAY, SHIFT, (0,), 2), (STAY, SHIFT, (0,), 1)])


if __name__ == "__main__":
    unittest.main()
