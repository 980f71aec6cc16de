"""The texts of words."""

from whosetomorrow.errors import BadText
from whosetomorrow.words import check_word, find_kind

BARE_TEXTS = {
    "I": "I", "you": "you", "self": "self", "told": "told", "somebody": "somebody",
    "one day": "someday",
    "here": "here", "there": "there", "somewhere": "somewhere",
}
# None of these begins another one, so a text tells which of them it begins with.
HEAD_TEXTS = {
    "name": "@", "place": "#", "date": "=",
    "today": "today", "that day": "that",
    "coming": "coming", "last": "last", "then coming": "thencoming", "then last": "thenlast",
}


def count_text(number):
    """Return the text of a number of days from a day; that of 0 is empty."""
    if number == 0:
        return ""
    return f"+{number}" if number > 0 else str(number)


def word_text(word):
    """Return the text of a word."""
    check_word(word)
    head = word[0]
    if head in BARE_TEXTS:
        return BARE_TEXTS[head]
    if head in ("today", "that day"):
        return HEAD_TEXTS[head] + count_text(word[1])
    return HEAD_TEXTS[head] + str(word[1])


def find_number(text):
    """Return the number with this text of at most 100 figures, or None."""
    figures = text[1:] if text.startswith("-") else text
    if not 1 <= len(figures) <= 100 or not all([sign in "0123456789" for sign in figures]):
        return None
    if figures[0] == "0" and text != "0":
        return None
    return int(text)


def find_count(text):
    """Return the number of days with this text behind a day, or None."""
    if text == "":
        return 0
    plus = text.startswith("+")
    number = find_number(text[1:] if plus else text)
    if number is None or number == 0 or (number > 0) != plus:
        return None
    return number


def find_entry(head, text):
    """Return what the text of a word tells as the entry behind this first one, or None."""
    if head in ("name", "place"):
        return text
    if head in ("today", "that day"):
        return find_count(text)
    return find_number(text)


def find_word(text):
    """Return the word with exactly this text, or None."""
    for head, told in BARE_TEXTS.items():
        if text == told:
            return (head,)
    for head, begin in HEAD_TEXTS.items():
        if text.startswith(begin):
            word = (head, find_entry(head, text[len(begin):]))
            return word if find_kind(word) is not None else None
    return None


def read_word(text):
    """Return the word with exactly this text."""
    if not isinstance(text, str):
        raise BadText(0, "text")
    word = find_word(text)
    if word is None:
        raise BadText(0, "word")
    return word
