"""Rules of scribes' books: what may stand in them, when they hold, and what they let a scribe write.

The case of a step for a word is all of the step that rules ask for: of a day
word (offset, delay), of a person word the truths (does it mean the new teller,
does it mean the new hearer), of a place word the truth (does it mean the new place,).
"""

from whosetomorrow.errors import BadBook
from whosetomorrow.words import is_sequence, is_whole

MOST_RULES = (6, 4, 3)
DAY_SORTS = ("today", "coming", "last", "date")
DAY_ACTIONS = ("keep", "move", "date", "coming", "last", "weekday")
PERSON_SORTS = ("I", "you", "name")
PLACE_SORTS = ("here", "place")


def is_text_of(thing, texts):
    """Tell whether a thing is one of these texts."""
    return isinstance(thing, str) and thing in texts


def is_from_to(thing, low, high):
    """Tell whether a thing is a whole number from low to high."""
    return is_whole(thing) and low <= thing <= high


def day_rule_fault(rule):
    """Return the first word that applies to a day rule, or None."""
    if not is_sequence(rule) or len(rule) != 6:
        return "row"
    sort, low, high, least, most, action = rule
    if not is_text_of(sort, DAY_SORTS):
        return "sort"
    if not is_from_to(low, -9, 9) or not is_from_to(high, low, 9):
        return "offsets"
    if not is_from_to(least, 0, 9) or not (most is None or is_from_to(most, least, 9)):
        return "delays"
    return None if is_text_of(action, DAY_ACTIONS) or is_from_to(action, 0, 9) else "action"


def told_rule_fault(rule, sorts, length):
    """Return the first word that applies to a rule of this length that asks for truths, or None."""
    if not is_sequence(rule) or len(rule) != length:
        return "row"
    if not is_text_of(rule[0], sorts):
        return "sort"
    if not all([told is None or isinstance(told, bool) for told in rule[1:-1]]):
        return "cases"
    return None if is_text_of(rule[-1], ("keep",) + sorts) else "action"


def check_rules(days, persons, places):
    """Refuse what are no rules of a book."""
    for index, rules in enumerate([days, persons, places]):
        if not is_sequence(rules) or len(rules) > MOST_RULES[index]:
            raise BadBook(index, "many")
    faults = [day_rule_fault(rule) for rule in days]
    faults.extend([told_rule_fault(rule, PERSON_SORTS, 4) for rule in persons])
    faults.extend([told_rule_fault(rule, PLACE_SORTS, 3) for rule in places])
    for number, what in enumerate(faults):
        if what is not None:
            raise BadBook(number, what)


def numbered_rules(book, kind):
    """Return the couples (number, rule) of the rules of a book for words of a kind."""
    ahead = len(book.days)
    if kind == "day":
        return list(enumerate(book.days))
    if kind == "person":
        return list(enumerate(book.persons, start=ahead))
    return list(enumerate(book.places, start=ahead + len(book.persons)))


def fits_case(kind, rule, case):
    """Tell whether a rule for words of a kind lets a case be, whatever the sort of the word."""
    if kind == "day":
        offset, delay = case
        low, high, least, most = rule[1:5]
        return low <= offset <= high and least <= delay and (most is None or delay <= most)
    return all([told is None or told == truth for told, truth in zip(rule[1:-1], case)])


def holding_rule(rules, kind, sort, case):
    """Return the couple (number, rule) of the rule that holds for words of this sort in a case, or None."""
    for number, rule in rules:
        if rule[0] == sort and fits_case(kind, rule, case):
            return (number, rule)
    return None


def written_day(action, sort, case):
    """Return (sort, k) of the day word that an action writes in the place of one of a sort; k is for "today" alone."""
    offset, delay = case
    now = offset - delay
    if action == "keep" and sort == "today":
        return ("today", offset)
    if is_whole(action):
        return ("today", offset - action)
    told = sort if action == "keep" else action
    if told == "weekday" and 1 <= now <= 7:
        told = "coming"
    if told == "weekday" and -7 <= now <= -1:
        told = "last"
    if told in ("coming", "last", "date"):
        return (told, None)
    return ("today", now) if -30 <= now <= 30 else ("date", None)


def written_name(action, sort):
    """Return the sort of the person or place word that an action writes in the place of one of a sort."""
    return sort if action == "keep" else action
