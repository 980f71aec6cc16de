"""[0.3], [1.1]: whole numbers, names, words and their kinds."""

import unittest

from tests.helper import (
    ALL_WORDS, DAY_WORDS, KNOWN_WORDS, NEEDY, NO_NAMES, NO_WHOLES, NO_WORDS, PERSON_WORDS, PLACE_WORDS,
    UNKNOWN_WORDS, Case,
)
from whosetomorrow.errors import BadWord
from whosetomorrow.words import (
    check_word, find_kind, is_absolute, is_name, is_unknown, is_whole, kind_of, needs_report,
)


class WordsTest(Case):
    def test_whole_numbers(self):
        for number in (0, 1, -1, 10 ** 39, -10 ** 99):
            self.assertIs(is_whole(number), True)
        for thing in NO_WHOLES:
            self.assertIs(is_whole(thing), False)

    def test_names(self):
        for name in ("a", "z", "bob", "today", "abcdefgh", "zzzzzzzz"):
            self.assertIs(is_name(name), True)
        for thing in NO_NAMES + ["a\t", "{", "`", "a_b", "abcdefghij"]:
            self.assertIs(is_name(thing), False)

    def test_kinds_of_all_words(self):
        for kind, words in (("person", PERSON_WORDS), ("day", DAY_WORDS), ("place", PLACE_WORDS)):
            for word in words:
                self.assertEqual(find_kind(word), kind)
                self.assertEqual(kind_of(word), kind)
        self.assertEqual([kind_of(word) for word in UNKNOWN_WORDS], ["person", "day", "place"])

    def test_all_offsets_and_weekdays(self):
        for head in ("today", "that day"):
            self.assertEqual([k for k in range(-99, 99) if find_kind((head, k)) == "day"], list(range(-30, 31)))
        for head in ("coming", "last", "then coming", "then last"):
            self.assertEqual([w for w in range(-99, 99) if find_kind((head, w)) == "day"], list(range(7)))

    def test_names_in_words_have_one_to_eight_letters(self):
        for length in range(12):
            for head, kind in (("name", "person"), ("place", "place")):
                self.assertEqual(find_kind((head, "b" * length)), kind if 1 <= length <= 8 else None)

    def test_a_word_is_returned_by_check_word(self):
        for word in ALL_WORDS:
            self.assertEqual(check_word(word), word)

    def test_which_words_are_unknown_absolute_or_need_a_report(self):
        for word in ALL_WORDS:
            self.assertIs(is_unknown(word), word in UNKNOWN_WORDS)
            self.assertIs(is_absolute(word), word[0] in ("name", "date", "place"))
            self.assertIs(needs_report(word), word[0] in NEEDY)

    def test_no_word_has_no_kind(self):
        for thing in NO_WORDS:
            self.assertIsNone(find_kind(thing), repr(thing))

    def test_five_functions_refuse_what_is_no_word(self):
        for call in (kind_of, check_word, is_unknown, is_absolute, needs_report):
            for thing in NO_WORDS:
                self.refused(BadWord(), call, thing)

    def test_lists_are_no_words(self):
        for word in ALL_WORDS:
            self.assertIsNone(find_kind(list(word)))
            self.assertIsNone(find_kind(word + word))
            self.assertIsNone(find_kind(word + (None,)))
            self.assertIsNone(find_kind((word,)))
            self.assertIsNone(find_kind(word[1:]))

    def test_long_dates_are_words(self):
        for number in (10 ** 39, -10 ** 39, 10 ** 99):
            self.assertEqual(find_kind(("date", number)), "day")
        self.assertEqual(len(KNOWN_WORDS), len(set(KNOWN_WORDS)))


if __name__ == "__main__":
    unittest.main()
