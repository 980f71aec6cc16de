"""[7.9]: whether two books leave words that mean the same."""

import random
import unittest

from tests.bookkit import NO_CHAIN_WORDS, BookCase, meaning_of, part_through, random_book
from tests.helper import random_situation
from tests.test_chains import SAFE_ACTIONS, WORDS
from tests.test_scribes import random_step
from whosetomorrow.chains import Closed, WrongChain, always_right
from whosetomorrow.errors import BadWord
from whosetomorrow.samebooks import PartingChain, same_books
from whosetomorrow.scribes import Book, Step, word_chain
from whosetomorrow.situations import Situation

HERE = Situation("ann", "bob", 10, "rome")


class SameBooksTest(BookCase):
    def test_what_is_given_is_kept(self):
        steps = [1]
        self.assertIs(PartingChain(HERE, steps).steps, steps)
        one = PartingChain(HERE, (Step(0, "ann", "rome"),))
        self.equal_only((one, PartingChain(HERE.moved(0), (Step(0, "ann", "rome"),))), [
            PartingChain(HERE, ()), PartingChain(HERE.moved(1), one.steps), WrongChain(HERE, one.steps)])

    def test_other_words_are_refused(self):
        for word in NO_CHAIN_WORDS:
            self.refused(BadWord(), same_books, Book.plain(), Book.plain(), word)

    def check(self, one, other, word):
        """Check one word against all chains; return the number of steps."""
        steps = part_through(one, other, word)
        found = same_books(one, other, word)
        if steps is None:
            self.assertIsNone(found)
            return None
        self.assertIsInstance(found, PartingChain)
        first = self.walked(one, word, found.situation, found.steps)
        second = self.walked(other, word, found.situation, found.steps)
        self.assertEqual(len(found.steps), steps)
        self.assertEqual(first[:-1], second[:-1])
        self.assertNotEqual(first[-1], second[-1])
        return steps

    def test_the_same_books(self):
        rng = random.Random(82)
        for _ in range(20):
            book = random_book(rng)
            for word in WORDS:
                self.assertIsNone(same_books(book, Book(book.days, book.persons, book.places), word))

    def test_books_unlike_at_one_rule(self):
        rng = random.Random(83)
        told = []
        for number in range(40):
            book = random_book(rng, actions=SAFE_ACTIONS if number % 2 else None)
            if len(book) == 0:
                continue
            other = book.without([rng.randrange(len(book))])
            for word in rng.sample(WORDS[:10], 1) + rng.sample(WORDS[10:], 3):
                told.append(self.check(book, other, word))
        self.assertTrue({None, 1, 2} <= set(told), told)

    def test_any_two_books(self):
        rng = random.Random(84)
        for _ in range(25):
            one, other = random_book(rng), random_book(rng)
            for word in rng.sample(WORDS[:10], 1) + rng.sample(WORDS[10:], 3):
                self.check(one, other, word)

    def test_both_err_alike(self):
        one = Book([("today", 1, 1, 2, 2, "keep")], [("I", None, None, "I")], [])
        other = Book([("today", 1, 1, 2, 2, 0)], [("I", None, None, "keep")], [])
        for word in (("today", 1), ("I",)):
            self.assertIsInstance(always_right(one, word), WrongChain)
            self.assertIsNone(same_books(one, other, word))
        # A weekday that comes too late, or too early, is the day that a number tells as wrongly.
        for offset, delay, action, number in [
                (9, 9, "coming", 2), (3, 8, "coming", 1), (-2, 8, "last", 1), (-7, 1, "last", 1)]:
            late = Book([("today", offset, offset, delay, delay, action)], [], [])
            told = Book([("today", offset, offset, delay, delay, number)], [], [])
            same = part_through(late, told, ("today", offset)) is None
            self.assertEqual(same_books(late, told, ("today", offset)) is None, same)
            self.assertEqual(same, offset != -7)
        # Both write the new teller, then one keeps and the other names them: the same still.
        other = Book([], [("I", True, None, "keep"), ("I", False, None, "I")], [])
        self.assertIsNone(same_books(one, other, ("I",)))
        other = Book([], [("I", True, None, "name"), ("I", False, None, "I")], [])
        self.assertEqual(self.check(one, other, ("I",)), 2)

    def test_parting_behind_steps_that_err_alike(self):
        one = Book([("today", 1, 1, 3, 3, "keep"), ("today", 1, 1, 1, 1, "date")], [], [])
        other = Book([("today", 1, 1, 3, 3, 0), ("date", 1, 1, 3, 3, "coming")], [], [])
        self.assertIsNone(same_books(one, Book(one.days[:1], [], []), ("today", 1)))
        self.assertEqual(self.check(one, other, ("today", 1)), 2)
        self.assertEqual(self.check(one, other, ("today", 2)), 2)
        self.assertIsNone(same_books(one, other, ("today", 0)))

    def test_against_the_plain_book(self):
        rng = random.Random(85)
        for _ in range(60):
            book = random_book(rng, actions=SAFE_ACTIONS)
            for word in WORDS:
                right = always_right(book, word)
                found = same_books(book, Book.plain(), word)
                self.assertEqual(found is None, isinstance(right, Closed))
                self.assertEqual(same_books(Book.plain(), book, word) is None, found is None)
                if found is not None:
                    self.assertEqual(len(found.steps), len(right.steps))

    def test_same_books_on_random_chains(self):
        rng = random.Random(86)
        for _ in range(200):
            one, other = random_book(rng), random_book(rng)
            word = rng.choice(WORDS)
            if same_books(one, other, word) is None:
                steps = [random_step(rng) for _ in range(6)]
                situation = random_situation(rng)
                here = situation
                chains = zip(steps, word_chain(one, word, situation, steps), word_chain(other, word, situation, steps))
                for step, left, left_too in chains:
                    here = Situation(here.hearer, step.hearer, here.day + step.delay, step.place)
                    self.assertEqual(meaning_of(left, here), meaning_of(left_too, here))


if __name__ == "__main__":
    unittest.main()
