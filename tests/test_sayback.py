"""[3.11]: talks said back from their forms."""

import random
import types
import unittest

from tests.helper import (
    DAY_WORDS, PERSON_WORDS, PLACE_WORDS, SHIFT, STAY, TONGUES, UNKNOWN_WORDS, Case, come, nested, random_talk, report,
    samples,
)
from whosetomorrow.errors import BadForm, BadTalk, Unsaid
from whosetomorrow.forms import form_of
from whosetomorrow.sayback import count_alike, talk_of_form, talks_alike
from whosetomorrow.sevens import even_sevens, saw_sevens
from whosetomorrow.situations import Tongue
from whosetomorrow.talks import Plain, Report, Talk
from whosetomorrow.talkways import names_in, places_in, unknown_parts, with_word, words_of
from whosetomorrow.termlevels import terms_at, words_alike
from whosetomorrow.words import is_unknown, kind_of

TODAY = ("sevens", ("D",), even_sevens(0))
OWN = (("T",), ("H",), TODAY, ("Z",))


def reported(*rows, manner="own", own=OWN):
    """Return a report of a form."""
    return ("report", *own, manner, rows)


def plain(*terms):
    """Return a plain saying of a form."""
    return ("plain", "come", terms)


def small_talks(seed, many):
    """Yield random talks with few places, in all tongues one after the other."""
    rng = random.Random(seed)
    for at in range(many):
        rows = [Plain("go", rng.sample([("I",), ("today", 1), ("here",), ("coming", 3)], 2))]
        talk = random_talk(rng, 2, 1)
        while len(list(words_of(talk))) > 10:
            talk = random_talk(rng, 2, 1)
        yield Talk(list(talk.rows) + rows), TONGUES[at % 16]


class TalkOfFormTest(Case):
    def test_the_form_and_the_first_words(self):
        for at, (talk, _, _, _) in enumerate(samples(96, 301)):
            tongue = TONGUES[at % 16]
            form = form_of(talk, tongue)
            made = talk_of_form(form, tongue)
            self.assertIsInstance(made, Talk)
            self.assertEqual(form_of(made, tongue), form)
            self.assertEqual(unknown_parts(made), unknown_parts(talk))
            for (path, index, word), (_, _, old) in zip(words_of(made), words_of(talk)):
                if is_unknown(word):
                    self.assertEqual(word, old)
                    continue
                level = terms_at(talk, path, tongue)
                rows = {path + (index,): term for path, index, term in flat(form)}
                self.assertEqual(word, words_alike(level, rows[path + (index,)])[0])
            self.assertEqual(talk_of_form(form_of(made, tongue), tongue), made)

    def test_a_form_in_another_tongue(self):
        talk = Talk([report("indirect", come(("I",), ("today", 0)), whom=("I",), day=("today", -2))])
        form = form_of(talk, STAY)
        made = talk_of_form(form, SHIFT)
        self.assertEqual(made.rows[0].rows[0].words, (("you",), ("today", 2)))
        self.assertEqual(form_of(made, SHIFT), form)
        # Where all shift, nothing within says the outer day if the report's day is a date.
        form = form_of(Talk([report("indirect", come(("I",), ("today", 0)), whom=("I",))]), STAY)
        self.refused(Unsaid((0, 0), 1), talk_of_form, form, SHIFT)

    def test_unknown_words_exactly_at_their_own_parts(self):
        parts = (("who", 0), ("whom", 0), ("sevens", ("day", 0), even_sevens(0)), ("where", 0))
        talk = talk_of_form((reported(plain(("who", 0)), own=parts),), STAY)
        self.assertEqual(talk, Talk([Report(
            ("somebody",), ("somebody",), ("one day",), ("somewhere",), "own", [come(("I",))])]))
        for index, part in enumerate([
                ("who", 1), ("whom", 1), ("sevens", ("day", 1), even_sevens(0)), ("where", 1)]):
            own = parts[:index] + (part,) + parts[index + 1:]
            self.refused(Unsaid((0,), index), talk_of_form, (reported(plain(), own=own),), STAY)
        swapped = (("whom", 0), ("who", 0)) + parts[2:]
        self.refused(Unsaid((0,), 0), talk_of_form, (reported(plain(), own=swapped),), STAY)
        later = parts[:2] + (("sevens", ("day", 0), even_sevens(1)),) + parts[3:]
        self.refused(Unsaid((0,), 2), talk_of_form, (reported(plain(), own=later),), STAY)
        second = (("who", 1), ("T",), TODAY, ("Z",))
        form = (reported(plain()), reported(plain(("who", 1)), own=second))
        self.assertEqual(talk_of_form(form, STAY).rows[1].who, ("somebody",))

    def test_unsaid_tells_the_first_place(self):
        far = ("sevens", ("D",), even_sevens(31))
        for form, path, index in [
                ((plain(("who", 0)),), (0,), 0), ((plain(("T",), far, ("who", 0)),), (0,), 1),
                ((plain(), reported(plain(("where", 0)), plain(far)), plain(far)), (1, 0), 0),
                ((reported(plain(far), own=(("T",), ("H",), far, ("Z",))), plain(far)), (0,), 2),
                ((reported(plain(("H",), ("Z",)), own=(("T",), ("T",), TODAY, ("place", "rome"))),), (0, 0), 0),
                ((reported(reported(plain(("T",)), own=(("name", "cy"), ("H",), TODAY, ("Z",)))),), (0, 0, 0), 0)]:
            self.refused(Unsaid(path, index), talk_of_form, form, STAY)
            self.refused(Unsaid(path, index), talk_of_form, form, SHIFT)
        self.assertEqual(
            talk_of_form((plain(("sevens", ("D",), even_sevens(30)), ("sevens", ("D",), saw_sevens(2, 0))),), STAY),
            Talk([come(("today", 30), ("coming", 2))]))

    def test_bad_form_comes_first(self):
        far = ("sevens", ("D",), even_sevens(31))
        for form, path in [
                ((plain(("who", 0)), plain(("who", 12))), (1,)), ((plain(far), ("plain", "Come", ())), (1,)),
                ((), ()), (None, ()), ([plain(far)], ()), ((plain(far), reported(plain(far), ())), (1, 1)),
                ((reported(plain(far), manner="other"),), (0,))]:
            self.refused(BadForm(path), talk_of_form, form, STAY)
        many = tuple(reported(plain(), plain()) for _ in range(6))
        self.refused(BadForm(()), talk_of_form, (plain(far), reported(*many), reported(*many)), STAY)


def flat(form, path=()):
    """Return (path, index, term) for all terms of a form."""
    found = []
    for at, row in enumerate(form):
        here = path + (at,)
        terms = row[2] if row[0] == "plain" else row[1:5]
        found.extend((here, index, term) for index, term in enumerate(terms))
        if row[0] == "report":
            found.extend(flat(row[6], here))
    return found


class TalksAlikeTest(Case):
    def test_count_is_the_number_of_words_that_may_be_put_alone(self):
        for talk, tongue in small_talks(302, 24):
            form = form_of(talk, tongue)
            names = [("name", name) for name in names_in(talk) + ("zzz",)]
            spots = [("place", place) for place in places_in(talk)]
            days = [("date", n) for n in range(-100, 101)] + [word for word in DAY_WORDS if word[0] != "date"]
            days += [(head, k) for head in ("today", "that day") for k in range(-30, 31) if (head, k) not in days]
            pool = [word for word in PERSON_WORDS if word[0] != "name"] + names + days + [
                word for word in PLACE_WORDS if word[0] != "place"] + spots
            count = 1
            for path, index, word in words_of(talk):
                if is_unknown(word):
                    continue
                fitting = 0
                for other in [known for known in pool if kind_of(known) == kind_of(word)]:
                    try:
                        fitting += form_of(with_word(talk, path, index, other), tongue) == form
                    except BadTalk:
                        continue
                count *= fitting
            self.assertEqual(count_alike(talk, tongue), count)

    def test_all_of_one_form_all_unlike_in_their_order(self):
        checked = 0
        for talk, tongue in small_talks(303, 48):
            count = count_alike(talk, tongue)
            if count > 300:
                continue
            checked += 1
            form = form_of(talk, tongue)
            talks = list(talks_alike(talk, tongue))
            self.assertEqual(len(talks), count)
            choices = []
            for path, index, term in flat(form):
                old = dict(((p, i), w) for p, i, w in words_of(talk))[(path, index)]
                choices.append([old] if is_unknown(old) else list(words_alike(terms_at(talk, path, tongue), term)))
            places = []
            for made in talks:
                self.assertEqual(form_of(made, tongue), form)
                words = [word for _, _, word in words_of(made)]
                places.append(tuple(row.index(word) for row, word in zip(choices, words)))
            self.assertEqual(places, sorted(set(places)))
            self.assertEqual(talks[0], talk_of_form(form, tongue))
            self.assertIn(talk, talks)
        self.assertGreater(checked, 20)

    def test_the_last_place_changes_fastest(self):
        talk = Talk([report("indirect", come(("self",), ("there",)), who=("name", "cy"))])
        self.assertEqual(
            [made.rows[0].rows[0].words for made in talks_alike(talk, STAY)],
            [(("self",), ("there",)), (("self",), ("place", "rome")),
             (("name", "cy"), ("there",)), (("name", "cy"), ("place", "rome"))])
        # In the tongue where all shift, I and here say the same, too.
        self.assertEqual(count_alike(talk, SHIFT), 9)
        self.assertEqual(count_alike(talk, Tongue(True, False, False, False)), 6)

    def test_it_need_not_go_to_the_end(self):
        talk = Talk([nested(4, inmost=come(*[("self",)] * 4))] * 3)
        found = talks_alike(talk, SHIFT)
        self.assertIsInstance(found, types.GeneratorType)
        self.assertEqual(form_of(next(found), SHIFT), form_of(talk, SHIFT))
        self.assertEqual(count_alike(talk, SHIFT) % 3 ** 12, 0)
        self.assertGreater(count_alike(talk, SHIFT), 10 ** 9)

    def test_unknown_words_stay(self):
        talk = Talk([Report(*[UNKNOWN_WORDS[at] for at in (0, 0, 1, 2)], "own", [come()])])
        self.assertEqual(count_alike(talk, STAY), 1)
        self.assertEqual(list(talks_alike(talk, STAY)), [talk])


if __name__ == "__main__":
    unittest.main()
