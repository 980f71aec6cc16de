"""[7.5] to [7.8]: states, chains of any length, rules reached, what is settled."""

import itertools
import random
import unittest

from tests.bookkit import (
    DAY_SORTS, NAMES, NO_CHAIN_WORDS, BookCase, go_through, gone_on, meaning_of, random_book, situations_of,
    steps_for, told_state, told_written,
)
from tests.helper import STAY, come, report
from whosetomorrow.chains import (
    Closed, TalkErr, WrongChain, always_right, closed_fault, rules_reached, settled_after, talk_errs,
)
from whosetomorrow.errors import BadWord, HasReport
from whosetomorrow.forms import form_of, is_settled
from whosetomorrow.scribes import Book, Step, first_wrong, handed_on
from whosetomorrow.situations import Situation
from whosetomorrow.talks import Talk

HERE = Situation("ann", "bob", 10, "rome")
WORDS = [
    ("today", 0), ("today", 3), ("today", 9), ("today", -2), ("today", 12), ("today", 30), ("today", -30), ("coming", 2),
    ("last", 5), ("date", 4), ("I",), ("you",), ("name", "ann"), ("here",), ("place", "rome"),
]
SAFE_ACTIONS = ["move", "date", "weekday", "weekday", "keep"]
ALL_DATES = tuple([("date", offset) for offset in range(-10, 11)])


def numbered(book, number, action):
    """Return a book with another action of one rule."""
    rows = [list(book.days), list(book.persons), list(book.places)]
    for rules in rows:
        if number < len(rules):
            rules[number] = rules[number][:-1] + (action,)
            return Book(*rows)
        number -= len(rules)


class ResultTest(BookCase):
    def test_what_is_given_is_kept(self):
        rows, steps = [3], [1]
        self.assertIs(Closed(rows).rows, rows)
        self.assertEqual(vars(WrongChain(1, steps)), {"situation": 1, "steps": [1]})
        self.assertEqual(vars(TalkErr(1, 2, None)), {"path": 1, "index": 2, "chain": None})

    def test_equality(self):
        self.equal_only((Closed((1,)), Closed((1,))), [Closed((2,)), WrongChain((1,), ()), (1,)])
        step = Step(0, "ann", "rome")
        one, other = WrongChain(HERE, (step,)), WrongChain(HERE.moved(0), (Step(0, "ann", "rome"),))
        self.equal_only((one, other), [WrongChain(HERE, ()), WrongChain(HERE.moved(1), (step,)), Closed(())])
        self.equal_only((TalkErr((0,), 1, one), TalkErr((0,), 1, other)), [
            TalkErr((1,), 1, one), TalkErr((0,), 0, one), TalkErr((0,), 1, None), one])


class AlwaysRightTest(BookCase):
    def test_other_words_are_refused(self):
        for word in NO_CHAIN_WORDS:
            for function in (always_right, rules_reached, settled_after):
                self.refused(BadWord(), function, Book.plain(), word)
            self.refused(BadWord(), closed_fault, Book.plain(), word, None)

    def test_where_words_begin(self):
        plain = Book.plain()
        names = {("name", told, heard) for told in (False, True) for heard in (False, True)}
        told = {
            ("I",): [("I", False), ("I", True)], ("you",): [("you", False), ("you", True)], ("name", "ann"): [],
            ("here",): [("here",)], ("place", "rome"): [], ("date", 3): [], ("today", 30): [("today", 10)],
            ("today", -10): [("today", -10)], ("today", 9): [("today", 9)],
            ("coming", 3): [("coming", k) for k in range(1, 8)], ("last", 3): [("last", -k) for k in range(1, 8)],
        }
        for word, states in told.items():
            if word[0] in ("I", "you", "name"):
                states = states + list(names)
            elif word[0] in ("here", "place"):
                states = states + [("place", False), ("place", True)]
            elif word[0] == "today" and word[1] == -10:
                states = states + [("date", -10)]
            elif word[0] == "today" and word[1] == 9 or word[0] == "last":
                top = 9 if word[0] == "today" else -1
                states = states + [("date", offset) for offset in range(-10, top + 1)]
            elif word[0] == "coming":
                states = states + [("date", offset) for offset in range(-10, 8)]
            else:
                states = states + list(ALL_DATES)
            self.assertEqual(always_right(plain, word), Closed(tuple(sorted(states))))

    def check(self, book, word):
        """Check one word against all chains; return whether it is always right."""
        states, rules, wrong = go_through(book, word)
        found = always_right(book, word)
        self.assertEqual(rules_reached(book, word), rules)
        if wrong is None:
            self.assertEqual(found, Closed(states))
            self.tuples_only(found.rows)
            self.assertIsNone(closed_fault(book, word, states))
        else:
            self.assertIsInstance(found, WrongChain)
            self.check_wrong_chain(book, word, found, wrong)
        return wrong

    def test_against_all_chains_of_days(self):
        rng = random.Random(75)
        steps = []
        for number in range(36):
            book = random_book(rng, actions=SAFE_ACTIONS if number % 2 else None)
            for word in rng.sample(WORDS[:10], 2):
                steps.append(self.check(book, word))
        self.assertIn(None, steps)
        self.assertTrue({1, 2} <= set(steps), steps)

    def test_long_ways_to_an_error(self):
        days = [("date", 5, 5, 0, 0, "move"), ("today", 5, 5, 0, 0, "weekday"), ("coming", 5, 5, 0, 0, "last")]
        self.assertEqual(self.check(Book(days, [], []), ("date", 100)), 3)
        self.assertEqual(self.check(Book(days, [], []), ("coming", 1)), 1)
        # From 30 days off a date comes to 9, is told anew by 9, and errs one day later.
        days = [("date", 9, 9, 1, 1, "move"), ("today", 8, 8, 1, 1, "keep")]
        self.assertEqual(self.check(Book(days, [], []), ("today", 30)), 3)

    def test_against_all_chains_of_persons_and_places(self):
        rng = random.Random(76)
        steps = []
        for _ in range(60):
            book = random_book(rng)
            for word in WORDS[10:]:
                steps.append(self.check(book, word))
        self.assertTrue({None, 1, 2} <= set(steps), set(steps))

    def test_what_other_rules_do_changes_nothing(self):
        rng = random.Random(77)
        for _ in range(60):
            book = random_book(rng, actions=SAFE_ACTIONS)
            word = rng.choice(WORDS)
            found = always_right(book, word)
            reached = rules_reached(book, word)
            others = [number for number in range(len(book)) if number not in reached]
            changed = [book.without(others)]
            for number in others:
                changed.append(numbered(book, number, "keep"))
            for other in changed:
                new = always_right(other, word)
                if isinstance(found, Closed):
                    self.assertEqual(new, found)
                else:
                    self.assertEqual(len(new.steps), len(found.steps))


class ClosedFaultTest(BookCase):
    BOOK = Book(
        [("date", 3, 3, 0, None, "weekday"), ("coming", 1, 2, 0, 0, "keep"), ("today", 9, 9, 0, 0, "coming")],
        [("I", True, None, "I"), ("you", False, None, "you")], [("place", False, "here")])

    def test_what_is_no_row(self):
        fine = always_right(self.BOOK, ("date", 0)).rows
        for no in (None, "ab", {}, {1}, 3, object()):
            self.assertEqual(closed_fault(self.BOOK, ("date", 0), no), "row")
        for no in (
                None, ["date", 1], ("date",), ("date", 11), ("date", -11), ("date", True), ("date", 1.0), ("date", 1, 1),
                ("coming", 0), ("coming", 8), ("last", 0), ("last", 1), ("last", -8), ("that day", 1), ("I", True),
                ("place", True), ("here",), (), "date", ("date", None), ("date", "1"), (("date", 1),), ("today", False)):
            self.assertEqual(closed_fault(self.BOOK, ("date", 0), [no] + list(reversed(fine))), "row")
            self.assertEqual(closed_fault(self.BOOK, ("today", 1), fine[::-1] + (no,)), "row")
        for no in (("I",), ("I", 1), ("I", True, True), ("you", 0), ("name", True), ("name", 0, 1), ("date", 1), ("here",)):
            self.assertEqual(closed_fault(self.BOOK, ("I",), [no]), "row")
            self.assertEqual(closed_fault(self.BOOK, ("name", "ann"), [("name", True, True), no]), "row")
        for no in (("here", True), ("place",), ("place", 1), ("place", 0), ("there",), ("I", True)):
            self.assertEqual(closed_fault(self.BOOK, ("here",), [("place", True), no]), "row")

    def test_the_order(self):
        fine = always_right(self.BOOK, ("date", 0)).rows
        self.assertIsNone(closed_fault(self.BOOK, ("date", 0), fine))
        self.assertIsNone(closed_fault(self.BOOK, ("date", 0), list(fine)))
        self.assertEqual(closed_fault(self.BOOK, ("date", 0), fine + fine[-1:]), "order")
        self.assertEqual(closed_fault(self.BOOK, ("date", 0), fine[1:] + fine[:1]), "order")
        self.assertEqual(closed_fault(self.BOOK, ("date", 0), [("date", 1), ("date", 0)]), "order")
        self.assertEqual(closed_fault(self.BOOK, ("name", "a"), [("name", True, False), ("name", False, True)]), "order")

    def test_the_start(self):
        fine = always_right(self.BOOK, ("date", 0)).rows
        dates = [row for row in fine if row[0] == "date"]
        for row in dates:
            self.assertEqual(closed_fault(self.BOOK, ("date", 0), [other for other in fine if other != row]), "start")
        self.assertEqual(closed_fault(self.BOOK, ("I",), []), "start")
        self.assertEqual(closed_fault(self.BOOK, ("today", 9), [("today", 8)]), "start")
        self.assertEqual(closed_fault(self.BOOK, ("you",), [("you", True)]), "start")

    def test_wrong_ahead_of_left(self):
        self.assertEqual(closed_fault(self.BOOK, ("today", 9), [("today", 9)]), "wrong")
        self.assertEqual(closed_fault(self.BOOK, ("today", 8), [("today", 8), ("today", 9)]), "wrong")
        self.assertEqual(closed_fault(self.BOOK, ("today", 8), [("today", 8)]), "left")
        # What errs further on is not looked at: the step to it leaves the rows.
        book = Book([("today", 1, 1, 0, 0, "weekday"), ("coming", 1, 1, 0, 0, "last")], [], [])
        self.assertEqual(closed_fault(book, ("today", 1), [("today", 1)]), "left")
        self.assertEqual(closed_fault(book, ("today", 1), [("coming", 1), ("today", 1)]), "wrong")

    def test_left(self):
        for word in (("date", 0), ("today", 8), ("I",), ("name", "cy"), ("place", "rome")):
            found = always_right(self.BOOK, word)
            if isinstance(found, WrongChain):
                continue
            begun = {told_state(word, situation) for situation in situations_of(word)}
            for row in found.rows:
                if row not in begun:
                    rows = [other for other in found.rows if other != row]
                    self.assertEqual(closed_fault(self.BOOK, word, rows), "left")

    def test_more_than_the_reached_states(self):
        plain = Book.plain()
        rows = tuple(sorted(ALL_DATES + (("today", 3), ("coming", 2), ("last", -7))))
        self.assertIsNone(closed_fault(plain, ("today", 3), rows))
        self.assertNotEqual(always_right(plain, ("today", 3)), Closed(rows))
        keep = Book([("last", -9, 9, 0, None, "keep")], [], [])
        self.assertEqual(closed_fault(keep, ("today", 3), rows), "wrong")
        self.assertEqual(always_right(keep, ("today", 3)), always_right(plain, ("today", 3)))

    def test_random_rows_without_a_fault_are_right(self):
        rng = random.Random(78)
        found = 0
        for _ in range(150):
            book = random_book(rng, days=0)
            word = rng.choice(WORDS[10:])
            right = always_right(book, word)
            sorts = ("here", "place") if word[0] in ("here", "place") else ("I", "name", "you")
            states = {
                "I": [("I", False), ("I", True)], "you": [("you", False), ("you", True)],
                "name": [("name",) + pair for pair in itertools.product((False, True), repeat=2)],
                "here": [("here",)], "place": [("place", False), ("place", True)],
            }
            every = [state for sort in sorts for state in states[sort]]
            for size in range(len(every) + 1):
                for rows in itertools.combinations(every, size):
                    fault = closed_fault(book, word, rows)
                    if fault is None:
                        found += 1
                        self.assertIsInstance(right, Closed)
                        self.assertTrue(set(right.rows) <= set(rows))
                    if right == Closed(rows):
                        self.assertIsNone(fault)
        self.assertGreater(found, 50)


class TalkTest(BookCase):
    def test_reports_are_refused(self):
        talk = Talk([come(("I",)), report("own", come()), report("own", come())])
        self.refused(HasReport((1,)), talk_errs, Book([], [("I", None, None, "keep")], []), talk)

    def test_the_first_word_that_errs(self):
        book = Book([("coming", 1, 7, 0, None, "keep")], [("you", None, True, "you")], [])
        talk = Talk([come(), come(("I",), ("you",), ("coming", 3)), come(("coming", 1))])
        found = talk_errs(book, talk)
        self.assertEqual((found.path, found.index), ((1,), 2))
        self.assertIsInstance(found, TalkErr)
        self.check_wrong_chain(book, ("coming", 3), found.chain, 1)
        self.assertEqual(first_wrong(talk, found.chain.situation, book, found.chain.steps)[1:], ((1,), 2))
        self.assertIsNone(talk_errs(book, Talk([come(("I",), ("you",))])))
        self.assertIsNone(talk_errs(book, Talk([come()])))

    def test_against_each_word(self):
        rng = random.Random(79)
        for _ in range(60):
            book = random_book(rng, actions=SAFE_ACTIONS)
            words = rng.sample(WORDS, 4)
            talk = Talk([come(*words[:2]), come(*words[2:])])
            wrong = [at for at, word in enumerate(words) if isinstance(always_right(book, word), WrongChain)]
            found = talk_errs(book, talk)
            if not wrong:
                self.assertIsNone(found)
            else:
                self.assertEqual((found.path, found.index), ((wrong[0] // 2,), wrong[0] % 2))
                self.assertIsNotNone(first_wrong(talk, found.chain.situation, book, found.chain.steps))


def lengths_without_end(book, word, far=70, deep=90):
    """Return the numbers of steps up to a depth behind which a word may not be settled."""
    delays = range(1, far + 30)
    layer = {}
    for situation in situations_of(word, far):
        layer[told_state(word, situation), meaning_of(word, situation), situation.day] = (word, situation)
    led = {}
    found = []
    for steps in range(deep):
        if any(old[0] not in ("name", "date", "place") for old, _ in layer.values()):
            found.append(steps)
        new = {}
        for old, situation in layer.values():
            mark = mark_of(old, situation)
            if mark not in led:
                led[mark] = []
                for step in steps_for(old, delays):
                    written = told_written(book, old, situation, step)
                    led[mark].append((written, gone_on(situation, step)))
            for couple in led[mark]:
                new[mark_of(*couple)] = couple
        layer = new
    return found


def mark_of(word, situation):
    """Return what tells a word and a situation apart, whatever the day is; far past dates are one."""
    if word[0] in DAY_SORTS:
        return (word[0], max(-12, meaning_of(word, situation) - situation.day))
    return (told_state(word, situation), word, situation.teller, situation.hearer, situation.place)


class SettledTest(BookCase):
    def test_named_cases(self):
        plain = Book.plain()
        for word in WORDS:
            self.assertEqual(settled_after(plain, word), 0 if word[0] in ("name", "date", "place") else 1)
        move = Book([("today", -9, 9, 0, None, "move"), ("date", 0, 9, 0, None, "move")], [], [])
        self.assertIsNone(settled_after(move, ("date", 5)))
        self.assertEqual(settled_after(move, ("today", 3)), 14)
        self.assertEqual(settled_after(move, ("today", 30)), 41)
        self.assertEqual(settled_after(move, ("today", -10)), 1)
        # A step that errs may put a day off again and again.
        late = Book([("date", 0, 0, 9, 9, "coming")], [], [])
        self.assertIsNone(settled_after(late, ("today", 30)))
        late = Book([("date", 0, 0, 9, 9, "move")], [], [])
        self.assertIsNone(settled_after(late, ("date", -100)))
        self.assertEqual(settled_after(late, ("today", 30)), 32)
        self.assertEqual(settled_after(late, ("today", -1)), 1)
        keep = Book([("coming", 1, 7, 0, None, "keep"), ("today", 0, 0, 0, 0, "keep")], [], [])
        self.assertIsNone(settled_after(keep, ("coming", 3)))
        self.assertEqual(settled_after(keep, ("today", 0)), 1)
        self.assertEqual(settled_after(keep, ("date", 0)), 0)

    def test_persons_and_places(self):
        book = Book([], [("I", None, None, "you"), ("you", True, None, "name")], [("here", True, "here")])
        self.assertEqual(settled_after(book, ("I",)), 2)
        self.assertEqual(settled_after(book, ("you",)), 1)
        self.assertIsNone(settled_after(book, ("here",)))
        self.assertEqual(settled_after(book, ("place", "oslo")), 0)
        book = Book([], [("name", True, None, "I")], [("place", False, "here")])
        self.assertIsNone(settled_after(book, ("name", "ann")))
        self.assertIsNone(settled_after(book, ("place", "oslo")))
        self.assertIsNone(settled_after(book, ("I",)))

    def test_against_all_chains(self):
        rng = random.Random(80)
        told = []
        for number in range(14):
            book = random_book(rng, actions=["move", "weekday", "date", 1, 5] if number % 2 else None)
            for word in rng.sample(WORDS[:9], 2) + [WORDS[9]]:
                lengths = lengths_without_end(book, word)
                found = settled_after(book, word)
                told.append(found)
                if found is None:
                    # A date is tried from 70 days off alone, all others as far as they go.
                    self.assertGreaterEqual(lengths[-1], 30 if word[0] == "date" else 86)
                else:
                    self.assertEqual(found, lengths[-1] + 1 if lengths else 0)
        self.assertTrue({None, 0, 1} < set(told), told)

    def test_persons_and_places_against_all_chains(self):
        rng = random.Random(81)
        told = []
        for _ in range(40):
            book = random_book(rng)
            for word in WORDS[10:]:
                lengths = lengths_without_end(book, word, deep=30)
                found = settled_after(book, word)
                told.append(found)
                if found is None:
                    self.assertGreaterEqual(lengths[-1], 28)
                else:
                    self.assertEqual(found, lengths[-1] + 1 if lengths else 0)
        self.assertTrue({None, 0, 1, 2} <= set(told), told)

    def test_settled_words_look_to_nothing(self):
        book = Book([("today", -9, 9, 0, None, "move")], [], [])
        talk = Talk([come(("I",), ("today", 2), ("here",), ("you",))])
        many = max(settled_after(book, word) for word in talk.rows[0].words)
        self.assertEqual(many, 13)
        for delays in ([1] * many, [2] * many, [1] * (many - 1)):
            new, _ = handed_on(talk, HERE, book, [Step(delay, NAMES[2], "oslo") for delay in delays])
            self.assertEqual(is_settled(form_of(new, STAY)), len(delays) >= many or delays[0] > 1)


if __name__ == "__main__":
    unittest.main()
