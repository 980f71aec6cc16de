"""What is heard of a talk in a situation."""

from whosetomorrow.errors import NotOwn
from whosetomorrow.levels import outer_level, said_at
from whosetomorrow.situations import Situation
from whosetomorrow.talks import Talk
from whosetomorrow.talkways import (
    check_values, report_at, report_number, row_at, with_words, word_at,
)
from whosetomorrow.toldrows import (
    are_unlike, first_parting, level_around, said_parts, said_rows, things_below,
)
from whosetomorrow.words import is_unknown

VALUE_HEADS = ("name", "name", "date", "place")


def meaning_from(checked):
    """Return the function that tells what a word means if unknown parts have these checked values."""
    def said(level, word, number, index):
        if is_unknown(word):
            return (VALUE_HEADS[index], checked[number][index])
        return said_at(level, word)
    return said


def hear_talk(talk, situation, tongue, values=()):
    """Return what is heard of a talk."""
    said = meaning_from(check_values(talk, values))
    return said_rows(talk.rows, outer_level(situation), 0, tongue, said)


def level_at(talk, path, situation, tongue, values=()):
    """Return the level at which the row at a path stands."""
    row_at(talk, path)
    said = meaning_from(check_values(talk, values))
    return level_around(talk, path, outer_level(situation), tongue, said)


def meaning_at(talk, path, index, situation, tongue, values=()):
    """Return the meaning at a word place."""
    word = word_at(talk, path, index)
    checked = check_values(talk, values)
    if is_unknown(word):
        return (VALUE_HEADS[index], checked[report_number(talk, path)][index])
    level = level_around(talk, path, outer_level(situation), tongue, meaning_from(checked))
    return said_at(level, word)


def settled_talk(talk, situation, tongue, values=()):
    """Return the talk with each word written as what it means here."""
    heard = hear_talk(talk, situation, tongue, values)
    return with_words(talk, [meaning for path, index, meaning in things_below(heard, ())])


def heard_parting(one, other, situation, tongue, values=()):
    """Return the first place at which two talks are heard unlike with the same values, or None."""
    heard = hear_talk(one, situation, tongue, values)
    heard_too = hear_talk(other, situation, tongue, values)
    return first_parting(heard, heard_too, False, are_unlike, ())


def heard_alike(one, other, situation, tongue, values=()):
    """Tell whether two talks are heard alike with the same values."""
    return heard_parting(one, other, situation, tongue, values) is None


def situation_within(talk, path, situation, tongue, values=()):
    """Return the situation of the report at a path, and the checked values of the reports within it."""
    report = report_at(talk, path)
    number = report_number(talk, path)
    checked = check_values(talk, values)
    said = meaning_from(checked)
    level = level_around(talk, path, outer_level(situation), tongue, said)
    who, whom, day, place = said_parts(report, level, number, said)
    inner = Situation(who[1], whom[1], day[1], place[1])
    return (inner, checked[number + 1:number + report.reports])


def said_alone(talk, path):
    """Return the rows of an own report as a talk."""
    report = report_at(talk, path)
    if report.manner != "own":
        raise NotOwn()
    return Talk(report.rows)
