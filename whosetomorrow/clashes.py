"""Whether facts clash."""

from whosetomorrow.choices import number_sets
from whosetomorrow.daybounds import days_clash
from whosetomorrow.errors import NoFit
from whosetomorrow.joins import find_name_clash, find_unlike_clash


def rows_clash(rows):
    """Tell whether facts have no fit."""
    return find_name_clash(rows) is not None or find_unlike_clash(rows) is not None or days_clash(rows)


def find_clash(facts):
    """Return None if the facts have a fit, otherwise the numbers of the least clash."""
    rows = facts.rows
    if not rows_clash(rows):
        return None
    for numbers in number_sets(len(rows)):
        if rows_clash([rows[number] for number in numbers]):
            return numbers
    return None


def refuse_clash(facts):
    """Refuse facts that clash."""
    numbers = find_clash(facts)
    if numbers is not None:
        raise NoFit(numbers)
