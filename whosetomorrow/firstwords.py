"""First words: what may have been said, if a report is turned into own words."""

from whosetomorrow.choices import choices_in_order, count_choices
from whosetomorrow.errors import NoFirst, NotWithin
from whosetomorrow.forms import form_of
from whosetomorrow.sayback import form_choices
from whosetomorrow.talkways import remade_talk, report_number, told_manners, word_at, words_of
from whosetomorrow.words import is_index


def own_form(form, path):
    """Return the form with the report at a path in own words."""
    first = path[0]
    row = form[first]
    if len(path) > 1:
        new = row[:6] + (own_form(row[6], path[1:]),)
    else:
        new = row[:5] + ("own", row[6])
    return form[:first] + (new,) + form[first + 1:]


def is_within(path, report_path):
    """Tell whether a path leads into the report at another path."""
    return len(path) > len(report_path) and path[:len(report_path)] == report_path


def choices_within(talk, report_path, tongue):
    """Return (path, index, words) for all word places of a talk: first words within the report, else the word alone."""
    choices = form_choices(own_form(form_of(talk, tongue), report_path), tongue)
    found = []
    for (path, index, word), (_, _, words) in zip(words_of(talk), choices):
        found.append((path, index, words if is_within(path, report_path) else (word,)))
    return found


def first_words(talk, report_path, path, index, tongue):
    """Return the words that have their term at a word place within a report, if this one is in own words."""
    report_number(talk, report_path)
    word_at(talk, path, index)
    if not is_within(tuple(path), tuple(report_path)):
        raise NotWithin()
    for at, number, words in choices_within(talk, tuple(report_path), tongue):
        if at == tuple(path) and number == index:
            return words
    return ()


def first_rows(talk, report_path, tongue):
    """Return for each word place of a talk the words that first talks may have, and the manners that they have."""
    number = report_number(talk, report_path)
    manners = list(told_manners(talk))
    manners[number] = "own"
    return ([words for path, index, words in choices_within(talk, tuple(report_path), tongue)], manners)


def count_first_talks(talk, report_path, tongue):
    """Return the number of first talks."""
    rows, _ = first_rows(talk, report_path, tongue)
    return count_choices(rows)


def numbered_choice(rows, number):
    """Return the choice of one entry of each row that has this number; the last entry changes fastest."""
    chosen = []
    left = number
    for row in reversed(rows):
        chosen.insert(0, row[left % len(row)])
        left = left // len(row)
    return chosen


def first_talk_at(talk, report_path, tongue, number):
    """Return the first talk of this number."""
    rows, manners = first_rows(talk, report_path, tongue)
    if not is_index(number, count_choices(rows)):
        raise NoFirst(number)
    return remade_talk(talk, numbered_choice(rows, number), manners)


def first_talks(talk, report_path, tongue):
    """Yield all first talks; the word at the last place changes fastest."""
    rows, manners = first_rows(talk, report_path, tongue)
    for words in choices_in_order(rows):
        yield remade_talk(talk, words, manners)


def number_of_first(talk, report_path, tongue, first):
    """Return the number of a first talk, None if it is none."""
    rows, manners = first_rows(talk, report_path, tongue)
    words = [word for path, index, word in words_of(first)]
    if len(words) != len(rows) or not all([word in row for word, row in zip(words, rows)]):
        return None
    if remade_talk(talk, words, manners) != first:
        return None
    number = 0
    for word, row in zip(words, rows):
        number = number * len(row) + row.index(word)
    return number
