"""Talks retold in another manner, in another tongue, or by who heard them."""

from whosetomorrow.clashes import refuse_clash
from whosetomorrow.errors import BadManners
from whosetomorrow.rewording import reworded
from whosetomorrow.talks import Report, Talk, is_manner
from whosetomorrow.talkways import report_number, told_manners


def retold(talk, path, tongue, facts, menu):
    """Return the talk with the report at a path in the other manner."""
    refuse_clash(facts)
    number = report_number(talk, path)
    manners = list(told_manners(talk))
    manners[number] = "indirect" if manners[number] == "own" else "own"
    return reworded(talk, tongue, facts, menu, manners=manners)


def retold_all(talk, manner, tongue, facts, menu):
    """Return the talk with all reports in one manner."""
    refuse_clash(facts)
    if not is_manner(manner):
        raise BadManners(0)
    return reworded(talk, tongue, facts, menu, manners=[manner] * talk.reports)


def in_tongue(talk, tongue, other, facts, menu):
    """Return the talk in another tongue, its manners kept."""
    return reworded(talk, tongue, facts, menu, into=other)


def handed_talk(talk, who, day, place, tongue, facts, menu, *, manner="indirect"):
    """Return what the hearer of a talk may say of it later."""
    if manner == "own":
        return Talk([Report(who, ("I",), day, place, "own", talk.rows)])
    refuse_clash(facts)
    # The report in the manner asked for is made to be refused as such; then it is retold from own words.
    Talk([Report(who, ("I",), day, place, manner, talk.rows)])
    return retold(Talk([Report(who, ("I",), day, place, "own", talk.rows)]), (0,), tongue, facts, menu)
