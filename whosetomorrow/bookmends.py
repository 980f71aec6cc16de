"""Which rules to strike from a book so that words are always understood as meant."""

from whosetomorrow.bookrules import numbered_rules
from whosetomorrow.chainviews import search_views, start_views
from whosetomorrow.choices import choices_in_order, is_ascending, number_sets
from whosetomorrow.errors import BadWord
from whosetomorrow.scribes import chain_kind, is_chain_word
from whosetomorrow.words import is_index, is_sequence

MOST_WORDS = 4


def check_chain_words(words):
    """Refuse what is no list or tuple of one to four chain words."""
    if not is_sequence(words) or not 1 <= len(words) <= MOST_WORDS:
        raise BadWord()
    if not all([is_chain_word(word) for word in words]):
        raise BadWord()


def views_of_kind(words, kind):
    """Return the views in which the words of a kind begin."""
    views = []
    for word in words:
        if chain_kind(word) == kind:
            views.extend(start_views(word))
    return views


def is_right_without(rules, kind, views, struck):
    """Tell whether no chain from these views errs by the rules without those struck."""
    search, _ = search_views([row for row in rules if row[0] not in struck], kind, views)
    return search.wrong is None


def least_of_kind(book, words, kind):
    """Return all least sets of rules for words of a kind without which these are always understood as meant."""
    rules = numbered_rules(book, kind)
    views = views_of_kind(words, kind)
    found = []
    for places in number_sets(len(rules)):
        if found and len(places) > len(found[0]):
            break
        struck = tuple([rules[place][0] for place in places])
        if is_right_without(rules, kind, views, struck):
            found.append(struck)
    return found


def least_sets(book, words):
    """Return all least sets of rules without which words are always understood as meant."""
    rows = [least_of_kind(book, words, kind) for kind in ("day", "person", "place")]
    return [days + persons + places for days, persons, places in choices_in_order(rows)]


def least_strikes(book, words):
    """Return all sets of rule numbers of the least size without which words are always understood as meant."""
    check_chain_words(words)
    return tuple(sorted(least_sets(book, words)))


def are_numbers(numbers, count):
    """Tell whether a thing is a list or tuple of numbers from 0 below a count, ascending, none twice."""
    if not is_sequence(numbers) or not all([is_index(number, count) for number in numbers]):
        return False
    return is_ascending(numbers)


def strike_fault(book, words, numbers):
    """Return None if numbers are one of the least sets to strike, otherwise what is wrong with them."""
    check_chain_words(words)
    if not are_numbers(numbers, len(book)):
        return "numbers"
    for kind in ("day", "person", "place"):
        if not is_right_without(numbered_rules(book, kind), kind, views_of_kind(words, kind), numbers):
            return "errs"
    return "many" if len(numbers) > len(least_sets(book, words)[0]) else None
