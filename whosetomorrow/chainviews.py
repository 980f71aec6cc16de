"""Views of chain words: what chains leave of a word, for all situations at once.

A view is a couple (sort, where): the first entry of the word, and how what it
means lies to the situation. Of a day that is its offset from the situation's
day, of a person the truths (is it the teller, is it the hearer), of a place the
truth whether it is the situation's place. A move is what of a step matters for
a word: its delay; whether the new hearer is the one meant, the new teller or
another one; whether the new place is the place meant.
"""

from whosetomorrow.bookrules import holding_rule, written_day, written_name
from whosetomorrow.levels import outer_level, said_at
from whosetomorrow.scribes import Step, chain_kind, new_situation, written_word
from whosetomorrow.situations import Situation
from whosetomorrow.strangers import fresh_names

# No rule asks for an offset beyond 9, so all offsets from here on are one, later and earlier.
FAR = 10
# This delay brings an offset of 30 to -FAR, and one of 9 where no ("today", k) reaches.
LONGEST = 40


def start_views(word):
    """Return the views that a word has in some situation; far dates are as far as they need to be."""
    chain_kind(word)
    sort = word[0]
    truths = (False, True)
    wheres = {
        "I": [(True, heard) for heard in truths],
        "you": [(told, True) for told in truths],
        "name": [(told, heard) for told in truths for heard in truths],
        "today": [word[-1]], "coming": list(range(1, 8)), "last": list(range(-7, 0)),
        "date": list(range(-FAR, FAR + 1)),
        "here": [True], "place": list(truths),
    }
    return [(sort, where) for where in wheres[sort]]


def state_of(view):
    """Return the state of a view."""
    sort, where = view
    if sort == "here":
        return (sort,)
    if sort == "I":
        return (sort, where[1])
    if sort == "you":
        return (sort, where[0])
    if sort == "name":
        return (sort,) + where
    return (sort, where) if sort == "place" else (sort, max(-FAR, min(FAR, where)))


def view_of(state):
    """Return a view that has this state."""
    sort = state[0]
    if sort == "here":
        return (sort, True)
    if sort == "I":
        return (sort, (True, state[1]))
    if sort == "you":
        return (sort, (state[1], True))
    return (sort, state[1:]) if sort == "name" else state


def all_states(kind):
    """Return all states of words of a kind."""
    words = {
        "day": [("today", k) for k in range(-FAR, FAR + 1)] + [("coming", 0), ("last", 0), ("date", 0)],
        "person": [("I",), ("you",), ("name", "a")],
        "place": [("here",), ("place", "a")],
    }
    return [state_of(view) for word in words[kind] for view in start_views(word)]


def moves_of(kind):
    """Return the moves of steps that differ for words of a kind."""
    if kind == "day":
        return list(range(LONGEST + 1))
    return ["meant", "teller", "other"] if kind == "person" else [False, True]


def case_at(kind, where, move):
    """Return the case of a step for what lies so to the situation ahead of it."""
    if kind == "day":
        return (where, move)
    if kind == "person":
        heard = where[1]
        return (heard, move == "meant" or (move == "teller" and heard))
    return (move,)


def meant_where(kind, where, move):
    """Return how what was meant lies to the situation behind a step."""
    if kind == "day":
        return where - move
    case = case_at(kind, where, move)
    return case if kind == "person" else case[0]


def day_where(sort, k, now):
    """Return the offset of a written day word, if what was meant has this one now."""
    if sort == "coming":
        return 1 + (now - 1) % 7
    if sort == "last":
        return -1 - (-1 - now) % 7
    return k if sort == "today" else now


def person_where(sort, case, move):
    """Return how the person that a written word means lies to the situation behind a step."""
    mine = case[0]
    alone = move == "teller" or (move == "meant" and mine)
    if sort == "I":
        return (True, alone)
    return (alone, True) if sort == "you" else case


def led_view(rules, kind, view, move):
    """Return the number of the rule that holds at a step, or None, and the view behind the step."""
    sort, where = view
    case = case_at(kind, where, move)
    found = holding_rule(rules, kind, sort, case)
    if found is None:
        plain = {"day": "date", "person": "name", "place": "place"}
        return (None, (plain[kind], meant_where(kind, where, move)))
    number, rule = found
    if kind == "day":
        new, k = written_day(rule[-1], sort, case)
        return (number, (new, day_where(new, k, where - move)))
    new = written_name(rule[-1], sort)
    if kind == "person":
        return (number, (new, person_where(new, case, move)))
    return (number, (new, new == "here" or move))


class Search:
    """What moves lead to, each by the fewest moves, and the first move that goes wrong.

    `key(node)` tells which nodes are one; `lead(node, move)` returns the node to
    which a move leads, None if it goes wrong.
    """

    def __init__(self, starts, moves, key, lead):
        self.found = {}
        self.wrong = None
        for node in starts:
            self.found.setdefault(key(node), (node, None, None))
        waiting = list(self.found)
        while waiting:
            here = waiting.pop(0)
            node = self.found[here][0]
            for move in moves:
                new = lead(node, move)
                if new is None:
                    self.wrong = (here, move) if self.wrong is None else self.wrong
                elif key(new) not in self.found:
                    self.found[key(new)] = (new, here, move)
                    waiting.append(key(new))

    def wrong_way(self):
        """Return the first node on a shortest way to the first move that goes wrong, and all moves of this way."""
        here, move = self.wrong
        moves = [move]
        while self.found[here][1] is not None:
            moves.insert(0, self.found[here][2])
            here = self.found[here][1]
        return (self.found[here][0], moves)


def search_views(rules, kind, views):
    """Return the search of all that comes of views while no step errs, and the numbers of the rules that hold."""
    numbers = {}

    def lead(view, move):
        number, new = led_view(rules, kind, view, move)
        if number is not None:
            numbers[number] = True
        return new if new[1] == meant_where(kind, view[1], move) else None

    search = Search(views, moves_of(kind), state_of, lead)
    return (search, tuple(sorted(list(numbers))))


def start_situation(word, where):
    """Return a situation in which what a word means lies so."""
    kind = chain_kind(word)
    if kind == "day":
        # The same for a date n, a weekday w and ("today", k), whose offset is k: there the day is 0.
        return Situation("teller", "hearer", word[1] - where, "place")
    meant = word[-1] if word[0] in ("name", "place") else "meant"
    other, another = fresh_names([meant], 2)
    if kind == "place":
        return Situation("teller", "hearer", 0, meant if where else other)
    told, heard = where
    return Situation(meant if told else other, meant if heard else another, 0, "place")


def step_for(kind, meaning, situation, move):
    """Return a step that is such a move for what is meant."""
    thing = meaning[1]
    if kind == "day":
        return Step(move, situation.hearer, situation.place)
    if kind == "place":
        return Step(0, situation.hearer, thing if move else fresh_names([thing], 1)[0])
    other = fresh_names([thing, situation.hearer], 1)[0]
    hearers = {"meant": thing, "teller": situation.hearer, "other": other}
    return Step(0, hearers[move], situation.place)


def chain_of(book, word, where, moves):
    """Return a situation in which what a word means lies so, and steps that are these moves one after the other."""
    kind = chain_kind(word)
    first = start_situation(word, where)
    now = word
    here = first
    steps = []
    for move in moves:
        step = step_for(kind, said_at(outer_level(here), now), here, move)
        now = written_word(book, now, here, step)
        here = new_situation(here, step)
        steps.append(step)
    return (first, tuple(steps))
