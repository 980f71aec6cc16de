"""Talks said back: from a plain form to the words that say it."""

from whosetomorrow.choices import choices_in_order, count_choices
from whosetomorrow.errors import Unsaid
from whosetomorrow.forms import check_form, form_of
from whosetomorrow.levels import inner_level
from whosetomorrow.talks import Plain, Report, Talk
from whosetomorrow.talkways import with_words
from whosetomorrow.termlevels import outer_terms, unknown_term, words_alike
from whosetomorrow.toldrows import things_of

UNKNOWN_PARTS = (("somebody",), ("somebody",), ("one day",), ("somewhere",))


def word_choices(row, level, number):
    """Return for each term in a row of a form the words for it; if it is a report, this is its number."""
    choices = []
    for index, term in enumerate(things_of(row)):
        if row[0] == "report" and term == unknown_term(number, index):
            choices.append((UNKNOWN_PARTS[index],))
        else:
            choices.append(words_alike(level, term))
    return choices


def choices_below(rows, level, number, tongue, path):
    """Return (path, index, words) for all word places of the rows of a form, and the number behind them.

    The rows stand at this level in the report at this path; the first report in them has this number.
    """
    found = []
    report = number
    for at, row in enumerate(rows):
        here = path + (at,)
        for index, words in enumerate(word_choices(row, level, report)):
            found.append((here, index, words))
        if row[0] == "report":
            inner = inner_level(level, row[1:5], row[5], tongue)
            within, report = choices_below(row[6], inner, report + 1, tongue, here)
            found.extend(within)
    return (found, report)


def form_choices(form, tongue):
    """Return (path, index, words) for all word places of a form."""
    found, _ = choices_below(form, outer_terms(), 0, tongue, ())
    return found


def rows_with_words(rows, words, start):
    """Return the rows of a form with words for its terms, and where in the words the rest begins."""
    made = []
    at = start
    for row in rows:
        if row[0] == "plain":
            end = at + len(row[2])
            made.append(Plain(row[1], words[at:end]))
            at = end
        else:
            who, whom, day, place = words[at:at + 4]
            inner, at = rows_with_words(row[6], words, at + 4)
            made.append(Report(who, whom, day, place, row[5], inner))
    return (made, at)


def talk_of_form(form, tongue):
    """Return the talk with this form whose words are each the first one that has its term."""
    check_form(form)
    words = []
    for path, index, choices in form_choices(form, tongue):
        if len(choices) == 0:
            raise Unsaid(path, index)
        words.append(choices[0])
    rows, _ = rows_with_words(form, words, 0)
    return Talk(rows)


def choices_alike(talk, tongue):
    """Return for each word place of a talk the words that have its term there."""
    return [words for path, index, words in form_choices(form_of(talk, tongue), tongue)]


def count_alike(talk, tongue):
    """Return the number of talks that say the same as this one."""
    return count_choices(choices_alike(talk, tongue))


def talks_alike(talk, tongue):
    """Yield all talks that say the same; the word at the last place changes fastest."""
    rows = choices_alike(talk, tongue)
    for words in choices_in_order(rows):
        yield with_words(talk, words)
