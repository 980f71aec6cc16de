"""[1.10]: the texts of words."""

import unittest

from tests.helper import ALL_WORDS, NO_WORDS, Case
from whosetomorrow.errors import BadText, BadWord
from whosetomorrow.wordtext import read_word, word_text

TEXTS = {
    "I": ("I",), "you": ("you",), "self": ("self",), "told": ("told",), "somebody": ("somebody",),
    "someday": ("one day",), "here": ("here",), "there": ("there",), "somewhere": ("somewhere",),
    "@bob": ("name", "bob"), "#rome": ("place", "rome"), "@today": ("name", "today"), "#here": ("place", "here"),
    "=0": ("date", 0), "=5": ("date", 5), "=-5": ("date", -5), "=10": ("date", 10),
    "today": ("today", 0), "today+3": ("today", 3), "today-3": ("today", -3), "today+30": ("today", 30),
    "that": ("that day", 0), "that+1": ("that day", 1), "that-30": ("that day", -30),
    "coming0": ("coming", 0), "coming6": ("coming", 6), "last3": ("last", 3),
    "thencoming2": ("then coming", 2), "thenlast6": ("then last", 6),
}
NO_TEXTS = [
    "", " ", "i", "You", "one day", "oneday", "one", "name", "date", "place", "@", "#", "=", "@Bob", "@abcdefghi",
    "#abcdefghi", "#r me", "@b0b", "@@a", "#@a", "@ bob", "bob", "=+5", "=-0", "=00", "=05", "=-05", "=5.0", "= 5",
    "=5 ", " =5", "=--5", "=-", "=a", "=1_0", "today+0", "today-0", "today+31", "today-31", "today+03", "today-03",
    "today+-3", "today-+3", "today++3", "today--3", "today+", "today-", "today3", "today+3 ", " today", "today ",
    "today+3+3", "today+ 3", "todays", "today0", "that0", "today00", "that+0", "that-0", "that+31", "thatday", "that day", "thatday+1", "that3",
    "coming", "coming7", "coming-1", "coming+1", "coming06", "coming00", "coming 3", "coming-0", "coming10", "last",
    "last7", "lasto", "then", "thencoming", "thencoming7", "then coming3", "thenlast", "thenlast-1", "Coming3",
    "I ", " I", "II", "selfself", "/", ";", "[", "here\n", "\there", "tomorrow", "=1e3", "=0x1", "=1x", "=12a", "=1+1", "=1-1", "=+1", "@bob#rome",
]


class WordTextTest(Case):
    def test_the_text_of_each_kind_of_word_and_back(self):
        for text, word in TEXTS.items():
            self.assertEqual(word_text(word), text)
            self.assertEqual(read_word(text), word)

    def test_all_words_there_and_back(self):
        for word in ALL_WORDS:
            self.assertEqual(read_word(word_text(word)), word)

    def test_all_offsets_and_weekdays(self):
        for head, begin in (("today", "today"), ("that day", "that")):
            for k in range(-30, 31):
                text = begin if k == 0 else begin + format(k, "+d")
                self.assertEqual(word_text((head, k)), text)
                self.assertEqual(read_word(text), (head, k))
        for head in ("coming", "last", "then coming", "then last"):
            for w in range(7):
                text = head.replace(" ", "") + str(w)
                self.assertEqual(word_text((head, w)), text)
                self.assertEqual(read_word(text), (head, w))

    def test_texts_of_no_word(self):
        for text in NO_TEXTS:
            self.refused(BadText(0, "word"), read_word, text)

    def test_no_text(self):
        for thing in (None, 0, True, b"I", ["I"], ("I",), ("today", 0), object()):
            self.refused(BadText(0, "text"), read_word, thing)

    def test_no_word(self):
        for thing in NO_WORDS:
            self.refused(BadWord(), word_text, thing)

    def test_dates_of_100_and_of_101_figures(self):
        for sign in ("", "-"):
            text = "=" + sign + "9" * 100
            self.assertEqual(read_word(text), ("date", int(sign + "9" * 100)))
            self.assertEqual(word_text(read_word(text)), text)
            self.refused(BadText(0, "word"), read_word, "=" + sign + "1" + "0" * 100)
            self.refused(BadText(0, "word"), read_word, "=" + sign + "9" * 5000)


if __name__ == "__main__":
    unittest.main()
