"""Words, talks and values led along in time, or with two persons exchanged."""

from whosetomorrow.errors import BadSituation
from whosetomorrow.situations import check_names, exchange_name
from whosetomorrow.talkways import check_values, with_words, words_of
from whosetomorrow.words import check_word, is_whole


def check_days(days):
    """Refuse a number of days that is no whole number."""
    if not is_whole(days):
        raise BadSituation("day")


def word_along(word, days):
    """Return the word that says the same when everything happens so many days later."""
    check_word(word)
    check_days(days)
    head = word[0]
    if head == "date":
        return (head, word[1] + days)
    if head in ("coming", "last", "then coming", "then last"):
        return (head, (word[1] + days) % 7)
    return word


def talk_along(talk, days):
    """Return the talk with every word led along."""
    check_days(days)
    return with_words(talk, [word_along(word, days) for path, index, word in words_of(talk)])


def values_along(talk, values, days):
    """Return the checked values with so many days added to each day."""
    checked = check_values(talk, values)
    check_days(days)
    return tuple([
        (who, whom, None if day is None else day + days, place) for who, whom, day, place in checked
    ])


def word_exchanged(word, one, other):
    """Return the word with two person names exchanged."""
    check_word(word)
    check_names(one, other)
    if word[0] == "name":
        return ("name", exchange_name(word[1], one, other))
    return word


def talk_exchanged(talk, one, other):
    """Return the talk with two person names exchanged in every word."""
    check_names(one, other)
    return with_words(talk, [word_exchanged(word, one, other) for path, index, word in words_of(talk)])


def values_exchanged(talk, values, one, other):
    """Return the checked values with two person names exchanged."""
    checked = check_values(talk, values)
    check_names(one, other)
    return tuple([
        (exchange_name(who, one, other), exchange_name(whom, one, other), day, place)
        for who, whom, day, place in checked
    ])
