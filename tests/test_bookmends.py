"""[7.10]: which rules to strike."""

import itertools
import random
import unittest

from tests.bookkit import BookCase, random_book
from tests.test_chains import SAFE_ACTIONS, WORDS
from whosetomorrow.bookmends import least_strikes, strike_fault
from whosetomorrow.chains import Closed, always_right
from whosetomorrow.errors import BadWord
from whosetomorrow.scribes import Book

EXAMPLE = Book([("today", 1, 9, 0, 0, "keep"), ("today", 1, 9, 1, 9, "coming")], [], [])


def all_right(book, words, numbers):
    """Tell whether all words are always understood as meant without these rules."""
    return all(isinstance(always_right(book.without(numbers), word), Closed) for word in words)


def tried_strikes(book, words):
    """Return all least sets of rules to strike, found by trying all sets."""
    for size in range(len(book) + 1):
        found = [
            numbers for numbers in itertools.combinations(range(len(book)), size) if all_right(book, words, numbers)]
        if found:
            return tuple(found)


class StrikesTest(BookCase):
    def test_the_example(self):
        self.assertEqual(least_strikes(EXAMPLE, [("today", 3)]), ((1,),))
        self.assertEqual(strike_fault(EXAMPLE, (("today", 3),), (1,)), None)

    def test_other_words_are_refused_first(self):
        for no in (None, "I", {}, (), [], ("I",), [("I",)] * 5, [("I",), ("self",)], [("somebody",)], 3, [("I",), None]):
            self.refused(BadWord(), least_strikes, EXAMPLE, no)
            self.refused(BadWord(), strike_fault, EXAMPLE, no, None)
        self.assertEqual(least_strikes(EXAMPLE, [("I",)] * 4), ((),))

    def test_nothing_to_strike(self):
        self.assertEqual(least_strikes(Book.plain(), [("I",), ("today", 3)]), ((),))
        self.assertEqual(least_strikes(EXAMPLE, (("date", 3), ("I",))), ((),))
        self.assertIsNone(strike_fault(EXAMPLE, (("date", 3),), ()))
        self.assertIsNone(strike_fault(EXAMPLE, (("date", 3),), []))

    def test_against_trying_all_sets(self):
        rng = random.Random(87)
        sizes = []
        several = 0
        for number in range(40):
            book = random_book(rng, days=4, persons=3, places=2, actions=SAFE_ACTIONS + ["coming", "last"])
            words = [rng.choice(WORDS[:10])] + rng.sample(WORDS[10:], rng.randint(1, 3))
            told = tried_strikes(book, words)
            found = least_strikes(book, words)
            self.assertEqual(found, told)
            sizes.append(len(told[0]))
            several += len(told) > 1
            for size in range(len(book) + 1):
                for numbers in itertools.combinations(range(len(book)), size):
                    if number % 8 == 0 or numbers in told or size < len(told[0]):
                        fault = strike_fault(book, words, numbers)
                        right = all_right(book, words, numbers)
                        self.assertEqual(fault, "errs" if not right else None if numbers in told else "many")
        self.assertTrue({0, 1, 2} <= set(sizes), sizes)
        self.assertGreater(several, 0)

    def test_unions_of_several_least_sets(self):
        # Either rule of each couple covers the other one, so that striking one alone mends nothing.
        book = Book(
            [("coming", 7, 7, 0, 0, "last"), ("coming", 1, 7, 0, 0, "keep")],
            [("I", True, None, "you"), ("I", None, None, "I"), ("you", None, None, "you")],
            [("here", None, "here"), ("place", None, "here")])
        for words in ([("coming", 1), ("I",), ("here",)], [("place", "rome"), ("I",)], [("you",), ("name", "ann")]):
            self.assertEqual(least_strikes(book, words), tried_strikes(book, words))

    def test_several_least_sets(self):
        # The first rule writes what the second one misreads: without either of them all is right.
        book = Book(
            [("today", 3, 3, 0, 0, "coming"), ("coming", 3, 3, 1, 1, "last")],
            [("name", True, None, "I"), ("I", False, None, "I")], [])
        words = [("today", 3), ("name", "ann")]
        self.assertEqual(least_strikes(book, words), ((0, 2), (0, 3), (1, 2), (1, 3)))
        for numbers in ((0, 2), (0, 3), (1, 2), (1, 3)):
            self.assertIsNone(strike_fault(book, words, numbers))
        self.assertEqual(strike_fault(book, words, (0, 1, 2)), "many")

    def test_numbers(self):
        words = [("today", 3)]
        for no in (None, "1", {1}, {1: 1}, 1, (True,), (False, 1), (2,), (-1,), (1, 0), (1, 1), (0, 1, 1), ("1",), (1.0,)):
            self.assertEqual(strike_fault(EXAMPLE, words, no), "numbers")
        self.assertEqual(strike_fault(EXAMPLE, words, ()), "errs")
        self.assertEqual(strike_fault(EXAMPLE, words, (0,)), "errs")
        self.assertEqual(strike_fault(EXAMPLE, words, (0, 1)), "many")
        self.assertIsNone(strike_fault(EXAMPLE, words, [1]))

    def test_a_full_book(self):
        days = [("coming", 1, 7, k, k, "last") for k in range(6)]
        persons = [("I", None, None, "I")] * 4
        book = Book(days, persons, [("here", None, "here")] * 3)
        words = [("coming", 3), ("I",), ("here",), ("last", 1)]
        self.assertEqual(least_strikes(book, words), (tuple(range(13)),))


if __name__ == "__main__":
    unittest.main()
