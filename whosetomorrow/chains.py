"""What comes of words by chains of any length and any delays."""

from whosetomorrow.bookrules import numbered_rules
from whosetomorrow.chainviews import (
    FAR, LONGEST, all_states, chain_of, led_view, meant_where, moves_of, search_views, start_views, state_of, view_of,
)
from whosetomorrow.choices import is_ascending
from whosetomorrow.scribes import chain_kind, refuse_reports
from whosetomorrow.talkways import words_of
from whosetomorrow.words import is_sequence

# The farthest day that any word but a date may mean is 30 days off; all dates farther off are one.
FARTHEST = 31


class Closed:
    """All states that chains reach from a word that is always understood as meant."""

    def __init__(self, rows):
        self.rows = rows

    def __eq__(self, other):
        return isinstance(other, Closed) and self.rows == other.rows


class WrongChain:
    """A chain whose last step errs, and no step before."""

    def __init__(self, situation, steps):
        self.situation = situation
        self.steps = steps

    def __eq__(self, other):
        return isinstance(other, WrongChain) and self.situation == other.situation and self.steps == other.steps


class TalkErr:
    """A word of a talk that is not always understood as meant, and a chain that shows it."""

    def __init__(self, path, index, chain):
        self.path = path
        self.index = index
        self.chain = chain

    def __eq__(self, other):
        return (
            isinstance(other, TalkErr) and self.path == other.path and self.index == other.index
            and self.chain == other.chain
        )


def always_right(book, word):
    """Return all states that chains reach if a word is always understood as meant, otherwise a shortest wrong chain."""
    kind = chain_kind(word)
    search, _ = search_views(numbered_rules(book, kind), kind, start_views(word))
    if search.wrong is None:
        return Closed(tuple(sorted(list(search.found))))
    view, moves = search.wrong_way()
    situation, steps = chain_of(book, word, view[1], moves)
    return WrongChain(situation, steps)


def shape_of(thing):
    """Return for each entry of a tuple whether it is a text, a number or a truth; a truth is no number."""
    return [(isinstance(entry, str), isinstance(entry, int), isinstance(entry, bool)) for entry in thing]


def is_state(thing, states):
    """Tell whether a thing is one of these states."""
    return any([thing == state and shape_of(thing) == shape_of(state) for state in states])


def closed_fault(book, word, rows):
    """Return None if rows are states that no step leaves and from which none errs, else what is wrong with them."""
    kind = chain_kind(word)
    states = all_states(kind)
    if not is_sequence(rows) or not all([is_state(row, states) for row in rows]):
        return "row"
    if not is_ascending(rows):
        return "order"
    if not all([state_of(view) in rows for view in start_views(word)]):
        return "start"
    rules = numbered_rules(book, kind)
    steps = [(view_of(row), move) for row in rows for move in moves_of(kind)]
    led = [led_view(rules, kind, view, move)[1] for view, move in steps]
    meant = [meant_where(kind, view[1], move) for view, move in steps]
    if not all([view[1] == where for view, where in zip(led, meant)]):
        return "wrong"
    return None if all([state_of(view) in rows for view in led]) else "left"


def rules_reached(book, word):
    """Return the numbers of the rules that hold at some step ahead of which no step errs, ascending."""
    kind = chain_kind(word)
    _, numbers = search_views(numbered_rules(book, kind), kind, start_views(word))
    return numbers


def talk_errs(book, talk):
    """Return None if each word of a talk is always understood as meant, otherwise the first one that is not."""
    refuse_reports(talk)
    for path, index, word in words_of(talk):
        chain = always_right(book, word)
        if isinstance(chain, WrongChain):
            return TalkErr(path, index, chain)
    return None


def near_node(view):
    """Return a view; of those of a day that differ no more, however many steps follow, the one for them all."""
    sort, where = view
    return view if sort not in ("today", "date") else (sort, max(-FAR, min(FARTHEST, where)))


def later_moves(view, kind):
    """Return the moves of steps with a delay of one day or more that differ for a view."""
    if kind != "day":
        return moves_of(kind)
    # A date that is farther off than a delay reaches is so behind the step, too.
    return list(range(0 if view[1] == FARTHEST else 1, LONGEST + 2))


def later_views(rules, kind, starts):
    """Return for each view that chains with delays reach, right or wrong, those that one step more leads to."""
    led = {}
    waiting = list(starts)
    while waiting:
        view = waiting.pop()
        if view not in led:
            led[view] = [
                near_node(led_view(rules, kind, view, move)[1]) for move in later_moves(view, kind)
            ]
            waiting.extend(led[view])
    return led


def settled_after(book, word):
    """Return the least number of steps with delays behind which a word is always settled, or None."""
    kind = chain_kind(word)
    starts = start_views(word)
    if word[0] == "date":
        starts.append(("date", FARTHEST))
    led = later_views(numbered_rules(book, kind), kind, starts)
    # What is left leads to a word that is not settled; each round takes away what leads no further.
    left = {}
    grown = [view for view in led if view[0] not in ("name", "date", "place")]
    while grown:
        left.update({view: True for view in grown})
        grown = [view for view in led if view not in left and any([new in left for new in led[view]])]
    rounds = 0
    while left:
        kept = {view: True for view in left if any([new in left for new in led[view]])}
        if len(kept) == len(left):
            return None
        left = kept
        rounds = rounds + 1
    return rounds
