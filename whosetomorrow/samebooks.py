"""Whether two books leave words that mean the same."""

from whosetomorrow.bookrules import numbered_rules
from whosetomorrow.chainviews import Search, chain_of, led_view, moves_of, start_views, state_of
from whosetomorrow.scribes import chain_kind


class PartingChain:
    """A chain behind which the words that two books leave mean different things."""

    def __init__(self, situation, steps):
        self.situation = situation
        self.steps = steps

    def __eq__(self, other):
        return isinstance(other, PartingChain) and self.situation == other.situation and self.steps == other.steps


def same_books(one, other, word):
    """Return None if the words that two books leave always mean the same, else a shortest chain that parts them."""
    kind = chain_kind(word)
    rules = numbered_rules(one, kind)
    other_rules = numbered_rules(other, kind)

    def lead(views, move):
        view = led_view(rules, kind, views[0], move)[1]
        other_view = led_view(other_rules, kind, views[1], move)[1]
        return (view, other_view) if view[1] == other_view[1] else None

    starts = [(view, view) for view in start_views(word)]
    search = Search(starts, moves_of(kind), lambda views: (state_of(views[0]), state_of(views[1])), lead)
    if search.wrong is None:
        return None
    views, moves = search.wrong_way()
    situation, steps = chain_of(one, word, views[0][1], moves)
    return PartingChain(situation, steps)
