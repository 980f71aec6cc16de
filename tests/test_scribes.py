"""[7.1] to [7.4]: steps, books, written words and chains."""

import random
import unittest

from tests.bookkit import (
    CHAIN_WORDS, NAMES, NO_CHAIN_WORDS, BookCase, gone_on, meaning_of, random_book, told_rule, told_written,
)
from tests.helper import NO_NAMES, NO_WHOLES, come, random_situation, report
from whosetomorrow.along import talk_along, word_along
from whosetomorrow.errors import BadBook, BadStep, BadWord, HasReport
from whosetomorrow.scribes import (
    Book, Step, first_wrong, handed_on, new_situation, rule_used, word_chain, written_word,
)
from whosetomorrow.situations import Situation
from whosetomorrow.talks import Talk

HERE = Situation("ann", "bob", 10, "rome")
STEP = Step(1, "cy", "oslo")
DAY = ("today", -9, 9, 0, None, "keep")
PERSON = ("I", None, None, "keep")
PLACE = ("here", None, "keep")


def random_step(rng):
    """Return a random step."""
    delay = rng.choice([0, 1, 2, 7, 9, 10, 29, 30, 31, 40, rng.randint(0, 50)])
    return Step(delay, rng.choice(NAMES + ["eve"]), rng.choice(["rome", "paris", "oslo"]))


def random_plain_talk(rng):
    """Return a random talk without reports."""
    return Talk([come(*rng.choices(CHAIN_WORDS, k=rng.randint(0, 4))) for _ in range(rng.randint(1, 4))])


class StepTest(BookCase):
    def test_attributes_and_equality(self):
        step = Step(3, "ann", "rome")
        self.assertEqual(vars(step), {"delay": 3, "hearer": "ann", "place": "rome"})
        self.equal_only((step, Step(3, "ann", "rome")), [
            Step(2, "ann", "rome"), Step(3, "bob", "rome"), Step(3, "ann", "ann"), Situation("ann", "ann", 3, "rome")])

    def test_spoilt_steps(self):
        for delay in NO_WHOLES + [-1, -10 ** 30]:
            self.refused(BadStep("delay"), Step, delay, "Ann", 3)
        for hearer in NO_NAMES:
            self.refused(BadStep("hearer"), Step, 0, hearer, 3)
        for place in NO_NAMES:
            self.refused(BadStep("place"), Step, 10 ** 30, "ann", place)

    def test_the_new_situation(self):
        self.assertEqual(new_situation(HERE, STEP), Situation("bob", "cy", 11, "oslo"))
        self.assertEqual(new_situation(HERE, Step(0, "bob", "rome")), Situation("bob", "bob", 10, "rome"))
        self.assertEqual(new_situation(HERE, Step(0, "ann", "rome")), Situation("bob", "ann", 10, "rome"))


class BookTest(BookCase):
    def test_attributes_length_iteration_equality(self):
        days, persons, places = [list(DAY), DAY], [list(PERSON)], (PLACE,)
        book = Book(days, persons, places)
        days[0][5] = "move"
        days.append(DAY)
        persons[0].append(1)
        self.assertEqual(vars(book), {
            "days": (DAY, DAY), "persons": (PERSON,), "places": (PLACE,), "rules": (DAY, DAY, PERSON, PLACE)})
        self.tuples_only(book.rules)
        self.assertEqual(len(book), 4)
        self.assertEqual(list(book), [DAY, DAY, PERSON, PLACE])
        self.equal_only((book, Book((DAY, DAY), (PERSON,), [PLACE])), [
            Book([DAY], [PERSON], [PLACE]), Book([DAY, DAY], [], [PLACE]), Book([DAY, DAY], [PERSON], []),
            Book.plain(), book.rules])

    def test_plain(self):
        self.assertEqual(Book.plain(), Book([], (), []))
        self.assertEqual(len(Book.plain()), 0)
        self.assertEqual(Book.plain().rules, ())
        self.assertTrue(Book.plain() is not Book.plain())

    def test_without(self):
        days = [("today", k, k, 0, 0, "keep") for k in range(6)]
        persons = [("I", True, None, "keep"), ("you", None, None, "you"), ("name", None, None, "name")]
        book = Book(days, persons, [PLACE, ("place", True, "here")])
        self.assertEqual(book.without([0, 5, 6, 10]), Book(days[1:5], persons[1:], [PLACE]))
        self.assertEqual(book.without((9, 8)), Book(days, persons[:2], [("place", True, "here")]))
        self.assertEqual(book.without(()), book)
        self.assertEqual(book.without(list(range(11))), Book.plain())
        self.assertEqual(book.without([True, False]), book)
        self.assertEqual(len(book), 11)

    def test_too_many_come_first(self):
        for no in (None, "abc", 3, {}, {1}, DAY[0], object(), [DAY] * 7):
            self.refused(BadBook(0, "many"), Book, no, None, None)
        for no in (None, "abc", {}, [PERSON] * 5):
            self.refused(BadBook(1, "many"), Book, [3], no, None)
        for no in (None, "abc", {}, (PLACE,) * 4):
            self.refused(BadBook(2, "many"), Book, [3], [4], no)
        self.assertEqual(len(Book([DAY] * 6, [PERSON] * 4, [PLACE] * 3)), 13)

    def test_rule_by_rule(self):
        self.refused(BadBook(1, "row"), Book, [DAY, DAY[:5]], [()], [()])
        self.refused(BadBook(2, "row"), Book, [DAY], [PERSON, PERSON + (1,)], [()])
        self.refused(BadBook(3, "row"), Book, [DAY], [PERSON, PERSON], ["ab", ()])
        self.refused(BadBook(1, "action"), Book, [DAY, DAY[:5] + ("no",), ()], [], [])

    def refuse_day(self, what, rule):
        self.refused(BadBook(1, what), Book, [DAY, rule, None], [], [])

    def test_words_of_day_rules_in_their_order(self):
        for no in (None, "abcdef", {}, 6, (), DAY[:5], DAY + (1,), object()):
            self.refuse_day("row", no)
        for no in ("I", "that day", "then coming", "here", "", None, 1, ["today"], ("today",), "keep", {}):
            self.refuse_day("sort", (no, 5, 1, 11, 1, "no"))
        for low, high in [
                (-10, 0), (0, 10), (1, 0), (True, 3), (0, True), (False, 3), (None, 3), (0, None), ("0", 3), (0, 3.0)]:
            self.refuse_day("offsets", ("today", low, high, 11, 1, "no"))
        for least, most in [
                (-1, 3), (10, None), (10, 11), (0, 10), (3, 2), (True, 3), (0, True), (0, False), (None, 3),
                ("0", 3), (0, "3"), (0, 3.0), (1.0, None)]:
            self.refuse_day("delays", ("today", -9, 9, least, most, "no"))
        for action in ("today", "I", "", "Keep", None, True, False, -1, 10, 1.0, ["keep"], ("keep",), "name", {}):
            self.refuse_day("action", ("today", -9, 9, 9, 9, action))

    def test_words_of_person_and_place_rules_in_their_order(self):
        for no in (None, "abcd", {}, (), PERSON[:3], PERSON + (1,), DAY):
            self.refused(BadBook(1, "row"), Book, [DAY], [no, None], [None])
        for no in ("self", "here", "today", "somebody", "", None, 1, ["I"]):
            self.refused(BadBook(1, "sort"), Book, [DAY], [(no, 1, 1, "no")], [])
        for no in (0, 1, "True", "", (), [], 1.0):
            self.refused(BadBook(1, "cases"), Book, [DAY], [("I", no, 1, "no")], [])
            self.refused(BadBook(1, "cases"), Book, [DAY], [("I", None, no, "no")], [])
            self.refused(BadBook(1, "cases"), Book, [DAY], [], [("here", no, "no")])
        for no in ("here", "self", "place", "date", "", None, True, 0, ["keep"]):
            self.refused(BadBook(1, "action"), Book, [DAY], [("name", True, False, no)], [])
        for no in (None, "abc", {}, (), PLACE[:2], PLACE + (1,)):
            self.refused(BadBook(0, "row"), Book, [], [], [no, None])
        for no in ("there", "I", "somewhere", "", None, 1, ["here"]):
            self.refused(BadBook(0, "sort"), Book, [], [], [(no, 1, "no")])
        for no in ("there", "I", "name", "date", "", None, True, 0, ["keep"]):
            self.refused(BadBook(0, "action"), Book, [], [], [("place", True, no)])

    def test_all_that_is_let(self):
        for sort in ("today", "coming", "last", "date"):
            for action in ["keep", "move", "date", "coming", "last", "weekday"] + list(range(10)):
                for most in (None, 9):
                    self.assertEqual(Book([[sort, -9, 9, 9, most, action]], (), ()).days, ((sort, -9, 9, 9, most, action),))
        for sort in ("I", "you", "name"):
            for action in ("keep", "I", "you", "name"):
                for mine in (None, True, False):
                    for yours in (None, True, False):
                        Book([], [(sort, mine, yours, action)], [])
        for sort in ("here", "place"):
            for action in ("keep", "here", "place"):
                for here in (None, True, False):
                    Book([], [], [(sort, here, action)])


class WrittenTest(BookCase):
    def test_other_words_are_refused(self):
        book = Book.plain()
        for word in NO_CHAIN_WORDS:
            self.refused(BadWord(), rule_used, book, word, HERE, STEP)
            self.refused(BadWord(), written_word, book, word, HERE, STEP)
            self.refused(BadWord(), word_chain, book, word, HERE, [])

    def test_the_plain_word_without_a_rule(self):
        book = Book.plain()
        for word in CHAIN_WORDS:
            self.assertIsNone(rule_used(book, word, HERE, STEP))
        self.assertEqual(written_word(book, ("I",), HERE, STEP), ("name", "ann"))
        self.assertEqual(written_word(book, ("you",), HERE, STEP), ("name", "bob"))
        self.assertEqual(written_word(book, ("name", "cy"), HERE, STEP), ("name", "cy"))
        self.assertEqual(written_word(book, ("here",), HERE, STEP), ("place", "rome"))
        self.assertEqual(written_word(book, ("place", "oslo"), HERE, STEP), ("place", "oslo"))
        self.assertEqual(written_word(book, ("today", -30), HERE, STEP), ("date", -20))
        self.assertEqual(written_word(book, ("coming", 3), HERE, STEP), ("date", 17))
        self.assertEqual(written_word(book, ("last", 3), HERE, STEP), ("date", 3))
        self.assertEqual(written_word(book, ("date", 99), HERE, STEP), ("date", 99))

    def written(self, action, word, delay, day=10):
        book = Book([(word[0], -9, 9, 0, None, action)], [], [])
        return written_word(book, word, Situation("ann", "bob", day, "rome"), Step(delay, "bob", "rome"))

    def test_each_action_for_days(self):
        self.assertEqual(self.written("keep", ("today", 3), 2), ("today", 3))
        self.assertEqual(self.written("keep", ("coming", 3), 9), ("coming", 3))
        self.assertEqual(self.written("keep", ("date", 12), 9), ("date", 12))
        self.assertEqual(self.written("date", ("today", 3), 2), ("date", 13))
        self.assertEqual(self.written("date", ("last", 3), 2), ("date", 3))
        self.assertEqual(self.written("move", ("today", 3), 2), ("today", 1))
        self.assertEqual(self.written("move", ("coming", 3), 2), ("today", 5))
        self.assertEqual(self.written("move", ("last", 2), 2), ("today", -3))
        self.assertEqual(self.written("move", ("date", 1), 21), ("today", -30))
        self.assertEqual(self.written("move", ("date", 1), 22), ("date", 1))
        self.assertEqual(self.written("move", ("today", 9), 39), ("today", -30))
        self.assertEqual(self.written("move", ("today", 9), 40), ("date", 19))
        self.assertEqual(self.written(4, ("today", 3), 2), ("today", -1))
        self.assertEqual(self.written(9, ("today", -9), 0), ("today", -18))
        self.assertEqual(self.written(0, ("date", 12), 50), ("today", 2))
        self.assertEqual(self.written("coming", ("today", 3), 0), ("coming", 6))
        self.assertEqual(self.written("coming", ("date", 3), 99), ("coming", 3))
        self.assertEqual(self.written("last", ("today", -9), 5), ("last", 1))
        for left in range(-12, 10):
            for delay in (0, 3):
                told = ("coming", (13 + left - 3) % 7) if 1 <= left <= 7 else ("today", left)
                if -7 <= left <= -1:
                    told = ("last", (10 + left) % 7)
                if -9 <= left + delay <= 9:
                    self.assertEqual(self.written("weekday", ("today", left + delay), delay, day=10 - delay), told)
        self.assertEqual(self.written("weekday", ("today", -9), 22), ("date", 1))
        self.assertEqual(self.written("weekday", ("today", -9), 21), ("today", -30))

    def test_bounds_of_day_rules(self):
        book = Book([("today", -2, 3, 1, 4, 0), ("today", -9, 9, 2, None, 1), ("date", -9, 9, 0, 0, 2)], [], [])
        for k in (-30, -10, -9, -3, -2, -1, 0, 3, 4, 9, 10, 30):
            for delay in (0, 1, 2, 4, 5, 9, 10, 1000):
                told = 0 if -2 <= k <= 3 and 1 <= delay <= 4 else 1 if -9 <= k <= 9 and delay >= 2 else None
                step = Step(delay, "cy", "rome")
                self.assertEqual(rule_used(book, ("today", k), HERE, step), told)
                self.assertEqual(rule_used(book, ("date", 10 + k), HERE, step), 2 if abs(k) <= 9 and delay == 0 else None)
        self.assertEqual(rule_used(book, ("date", 10 + 10 ** 40), HERE, Step(0, "cy", "rome")), None)

    def test_persons(self):
        book = Book([DAY], [
            ("I", True, None, "I"), ("I", False, True, "you"), ("you", None, False, "I"), ("name", False, False, "keep"),
        ], [])
        here = Situation("ann", "ann", 0, "rome")
        self.assertEqual(written_word(book, ("I",), here, STEP), ("I",))
        self.assertEqual(rule_used(book, ("I",), HERE, STEP), None)
        self.assertEqual(written_word(book, ("I",), HERE, Step(0, "ann", "rome")), ("you",))
        self.assertEqual(rule_used(book, ("I",), HERE, Step(0, "ann", "rome")), 2)
        self.assertEqual(written_word(book, ("you",), HERE, STEP), ("I",))
        self.assertEqual(written_word(book, ("you",), HERE, Step(0, "bob", "rome")), ("name", "bob"))
        self.assertEqual(rule_used(book, ("name", "eve"), HERE, STEP), 4)
        self.assertEqual(rule_used(book, ("name", "bob"), HERE, STEP), None)
        self.assertEqual(rule_used(book, ("name", "cy"), HERE, STEP), None)
        self.assertEqual(rule_used(book, ("name", "ann"), HERE, STEP), 4)

    def test_places(self):
        book = Book([DAY], [PERSON], [("here", True, "here"), ("place", False, "here"), ("place", None, "keep")])
        self.assertEqual(written_word(book, ("here",), HERE, STEP), ("place", "rome"))
        self.assertEqual(written_word(book, ("here",), HERE, Step(0, "bob", "rome")), ("here",))
        self.assertEqual(written_word(book, ("place", "rome"), HERE, STEP), ("here",))
        self.assertEqual(rule_used(book, ("place", "oslo"), HERE, STEP), 4)
        self.assertEqual(written_word(book, ("place", "oslo"), HERE, STEP), ("place", "oslo"))

    def test_the_first_rule_that_fits_holds(self):
        book = Book([("today", 0, 9, 0, None, 1), ("today", 0, 9, 0, None, 2)], [], [])
        self.assertEqual(rule_used(book, ("today", 5), HERE, STEP), 0)
        self.assertEqual(written_word(book, ("today", 5), HERE, STEP), ("today", 4))

    def test_against_the_rules_read_another_way(self):
        rng = random.Random(71)
        for _ in range(400):
            book = random_book(rng)
            situation, step = random_situation(rng), random_step(rng)
            for word in rng.choices(CHAIN_WORDS, k=8) + [("today", rng.randint(-30, 30)), ("date", rng.randint(-60, 60))]:
                self.assertEqual(rule_used(book, word, situation, step), told_rule(book, word, situation, step))
                self.assertEqual(written_word(book, word, situation, step), told_written(book, word, situation, step))


class ChainTest(BookCase):
    def test_chains_in_one_call_and_in_two(self):
        rng = random.Random(72)
        for _ in range(200):
            book, situation, talk = random_book(rng), random_situation(rng), random_plain_talk(rng)
            steps = [random_step(rng) for _ in range(rng.randint(0, 8))]
            cut = rng.randint(0, len(steps))
            new, there = handed_on(talk, situation, book, steps)
            half, between = handed_on(talk, situation, book, tuple(steps[:cut]))
            self.assertEqual(handed_on(half, between, book, steps[cut:]), (new, there))
            chains = [[list(word_chain(book, word, situation, steps)) for word in row.words] for row in talk]
            for row, new_row, words in zip(talk, new, chains):
                self.assertEqual(new_row.deed, row.deed)
                self.assertEqual([len(chain) for chain in words], [len(steps)] * len(words))
                if steps:
                    self.assertEqual(new_row.words, tuple(chain[-1] for chain in words))
                else:
                    self.assertEqual(new_row, row)
            here = situation
            for step in steps:
                here = gone_on(here, step)
            self.assertEqual(there, here)

    def test_sixty_steps(self):
        book = Book([("today", -9, 9, 0, None, "move")], [], [])
        words = list(word_chain(book, ("today", 9), HERE, [Step(0, "cy", "rome")] * 60))
        self.assertEqual(words, [("today", 9)] * 60)

    def test_no_steps(self):
        self.assertEqual(list(word_chain(Book.plain(), ("I",), HERE, ())), [])
        talk = Talk([come(("I",))])
        self.assertEqual(handed_on(talk, HERE, Book.plain(), []), (talk, HERE))
        self.assertIsNone(first_wrong(talk, HERE, Book.plain(), []))

    def test_the_first_wrong_step_and_there_the_first_word(self):
        rng = random.Random(73)
        found = 0
        for _ in range(300):
            book, situation, talk = random_book(rng), random_situation(rng), random_plain_talk(rng)
            steps = [random_step(rng) for _ in range(rng.randint(0, 5))]
            places = [((at,), index, word) for at, row in enumerate(talk) for index, word in enumerate(row.words)]
            wrong = []
            for path, index, word in places:
                here = situation
                meant = meaning_of(word, here)
                for number, step in enumerate(steps):
                    word = told_written(book, word, here, step)
                    here = gone_on(here, step)
                    if meaning_of(word, here) != meant:
                        wrong.append((number, path, index))
            self.assertEqual(first_wrong(talk, situation, book, steps), min(wrong) if wrong else None)
            found += bool(wrong)
        self.assertGreater(found, 50)

    def test_first_step_ahead_of_first_word(self):
        book = Book([("today", 0, 9, 2, None, "keep")], [("I", None, None, "keep")], [])
        talk = Talk([come(), come(("name", "cy"), ("today", 1)), come(("I",))])
        self.assertEqual(first_wrong(talk, HERE, book, [Step(2, "cy", "rome")]), (0, (1,), 1))
        self.assertEqual(first_wrong(talk, HERE, book, [Step(0, "cy", "rome")]), (0, (2,), 0))

    def test_what_errs_is_told_though_it_comes_right_again(self):
        book = Book([], [("I", None, None, "keep")], [])
        talk = Talk([come(("I",))])
        steps = [Step(0, "ann", "rome"), Step(0, "bob", "rome")]
        self.assertEqual(handed_on(talk, HERE, book, steps)[1].teller, "ann")
        self.assertEqual(first_wrong(talk, HERE, book, steps), (0, (0,), 0))

    def test_reports_are_refused(self):
        talk = Talk([come(), report("own", report("own", come())), report("own", come())])
        for function in (handed_on, first_wrong):
            self.refused(HasReport((1,)), function, talk, HERE, Book.plain(), [])

    def test_led_along(self):
        rng = random.Random(74)
        for _ in range(200):
            book, situation, talk = random_book(rng), random_situation(rng), random_plain_talk(rng)
            steps = [random_step(rng) for _ in range(rng.randint(1, 5))]
            days = rng.choice([-8, -1, 1, 7, 10 ** 9, rng.randint(-30, 30)])
            new, there = handed_on(talk, situation, book, steps)
            along = handed_on(talk_along(talk, days), situation.moved(days), book, steps)
            self.assertEqual(along, (talk_along(new, days), there.moved(days)))
            for word in rng.choices(CHAIN_WORDS, k=4):
                led = word_chain(book, word_along(word, days), situation.moved(days), steps)
                told = word_chain(book, word, situation, steps)
                self.assertEqual(list(led), [word_along(new_word, days) for new_word in told])


if __name__ == "__main__":
    unittest.main()
