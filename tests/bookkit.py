"""What the tests of scribes share: random books, and chains gone through step by step."""

from tests.helper import KNOWN_WORDS, NEEDY, NO_WORDS, UNKNOWN_WORDS, Case, outer_world, told_word
from whosetomorrow.scribes import Book, Step
from whosetomorrow.situations import Situation

CHAIN_WORDS = [word for word in KNOWN_WORDS if word[0] not in NEEDY]
NO_CHAIN_WORDS = [word for word in KNOWN_WORDS if word[0] in NEEDY] + UNKNOWN_WORDS + NO_WORDS
DAY_SORTS = ["today", "coming", "last", "date"]
DAY_ACTIONS = ["keep", "move", "date", "coming", "last", "weekday"] + list(range(10))
NAMES = ["ann", "bob", "cy", "dot"]
SPOTS = ["rome", "oslo"]
DELAYS = range(0, 48)
TRUTHS = [None, True, False]


def random_day_rule(rng, actions=None):
    """Return a random day rule; most are wide."""
    low = rng.choice([-9, -9, -3, 0, 1, rng.randint(-9, 9)])
    high = rng.randint(low, 9) if rng.random() < 0.4 else 9
    least = rng.choice([0, 0, 0, 1, 2, rng.randint(0, 9)])
    most = rng.choice([None, None, least, rng.randint(least, 9)])
    return (rng.choice(DAY_SORTS), low, high, least, most, rng.choice(actions or DAY_ACTIONS))


def random_person_rule(rng):
    """Return a random person rule."""
    sorts = ["I", "you", "name"]
    return (rng.choice(sorts), rng.choice(TRUTHS), rng.choice(TRUTHS), rng.choice(["keep"] + sorts))


def random_place_rule(rng):
    """Return a random place rule."""
    sorts = ["here", "place"]
    return (rng.choice(sorts), rng.choice(TRUTHS), rng.choice(["keep"] + sorts))


def random_book(rng, days=6, persons=4, places=3, actions=None):
    """Return a random book with up to so many rules."""
    return Book(
        [random_day_rule(rng, actions) for _ in range(rng.randint(0, days))],
        [random_person_rule(rng) for _ in range(rng.randint(0, persons))],
        [random_place_rule(rng) for _ in range(rng.randint(0, places))])


def meaning_of(word, situation):
    """Return the name or the day that a word means."""
    return told_word(outer_world(situation), word)[1]


def gone_on(situation, step):
    """Return the situation behind a step."""
    return Situation(situation.hearer, step.hearer, situation.day + step.delay, step.place)


def rule_fits(rule, word, m, situation, step):
    """Tell whether a rule fits, as the document tells it."""
    if rule[0] != word[0]:
        return False
    if len(rule) == 6:
        _, low, high, least, most, _ = rule
        offset = m - situation.day
        return low <= offset <= high and least <= step.delay and (most is None or step.delay <= most)
    new = gone_on(situation, step)
    told = [m == new.teller, m == new.hearer] if len(rule) == 4 else [m == new.place]
    return all(asked is None or asked == truth for asked, truth in zip(rule[1:-1], told))


def kind_of_rule(rule):
    """Return the words that a rule is for."""
    return {6: DAY_SORTS, 4: ["I", "you", "name"], 3: ["here", "place"]}[len(rule)]


def told_rule(book, word, situation, step):
    """Return the number of the rule that holds, or None."""
    m = meaning_of(word, situation)
    for number, rule in enumerate(book.rules):
        if word[0] in kind_of_rule(rule) and rule_fits(rule, word, m, situation, step):
            return number
    return None


def told_written(book, word, situation, step):
    """Return the word that is written at a step, as the document tells it."""
    m = meaning_of(word, situation)
    if word[0] in DAY_SORTS:
        plain = ("date", m)
    else:
        plain = ("name", m) if word[0] in ("I", "you", "name") else ("place", m)
    number = told_rule(book, word, situation, step)
    if number is None:
        return plain
    action = book.rules[number][-1]
    if action == "keep":
        return word
    if action in ("I", "you", "here"):
        return (action,)
    if action in ("name", "date", "place"):
        return plain
    offset = m - situation.day
    left = offset - step.delay
    if action == "weekday":
        action = "coming" if 1 <= left <= 7 else "last" if -7 <= left <= -1 else "move"
    if action == "move":
        return ("today", left) if -30 <= left <= 30 else plain
    if action in ("coming", "last"):
        return (action, m % 7)
    return ("today", offset - action)


def situations_of(word, far=13):
    """Return situations in all of which together the word is in all its states; days are near it."""
    if word[0] == "date":
        return [Situation("ann", "bob", word[1] - offset, "rome") for offset in range(-far, far + 1)]
    if word[0] in DAY_SORTS:
        return [Situation("ann", "bob", day, "rome") for day in range(7)]
    if word[0] in ("here", "place"):
        return [Situation("ann", "bob", 0, place) for place in SPOTS]
    return [Situation(teller, hearer, 0, "rome") for teller in NAMES for hearer in NAMES]


def steps_for(word, delays=DELAYS):
    """Return steps that differ for a word."""
    if word[0] in DAY_SORTS:
        return [Step(delay, "bob", "rome") for delay in delays]
    if word[0] in ("here", "place"):
        return [Step(0, "bob", place) for place in SPOTS]
    return [Step(0, hearer, "rome") for hearer in NAMES]


def told_state(word, situation):
    """Return the state of a word in a situation, as the document tells it."""
    m = meaning_of(word, situation)
    if word[0] in DAY_SORTS:
        offset = m - situation.day
        return (word[0], 10 if offset > 10 else -10 if offset < -10 else offset)
    if word[0] == "I":
        return ("I", m == situation.hearer)
    if word[0] == "you":
        return ("you", m == situation.teller)
    if word[0] == "name":
        return ("name", m == situation.teller, m == situation.hearer)
    return ("here",) if word[0] == "here" else ("place", m == situation.place)


def place_in_time(words, situation):
    """Return what tells two couples of words and a situation apart, whatever the day is."""
    told = []
    for word in words:
        if word[0] in DAY_SORTS:
            told.append((word[0], meaning_of(word, situation) - situation.day))
        else:
            told.append((word, situation.teller, situation.hearer, situation.place))
    return tuple(told)


def go_through(book, word, most=60):
    """Go through all chains; return (states, numbers of rules that hold, least number of steps with an error)."""
    layer = [(word, situation) for situation in situations_of(word)]
    seen = {place_in_time([word], situation) for _, situation in layer}
    states = {told_state(*couple) for couple in layer}
    rules = set()
    wrong = None
    steps = 0
    while layer:
        steps += 1
        new = []
        for old, situation in layer:
            m = meaning_of(old, situation)
            for step in steps_for(old):
                rules.add(told_rule(book, old, situation, step))
                written = told_written(book, old, situation, step)
                behind = gone_on(situation, step)
                if meaning_of(written, behind) != m:
                    wrong = wrong or steps
                    continue
                mark = place_in_time([written], behind)
                if mark not in seen and not (written[0] in DAY_SORTS and abs(m - behind.day) > most):
                    seen.add(mark)
                    states.add(told_state(written, behind))
                    new.append((written, behind))
        layer = new
    return (tuple(sorted(states)), tuple(sorted(rules - {None})), wrong)


def part_through(one, other, word):
    """Go through all chains by two books; return the least number of steps behind which the words part, or None."""
    layer = [(word, word, situation) for situation in situations_of(word)]
    seen = {place_in_time(couple[:2], couple[2]) for couple in layer}
    steps = 0
    while layer:
        steps += 1
        new = []
        for old, old_too, situation in layer:
            for step in steps_for(old):
                written = told_written(one, old, situation, step)
                written_too = told_written(other, old_too, situation, step)
                behind = gone_on(situation, step)
                if meaning_of(written, behind) != meaning_of(written_too, behind):
                    return steps
                mark = place_in_time([written, written_too], behind)
                if mark not in seen and not (
                        written[0] in DAY_SORTS and abs(meaning_of(written, behind) - behind.day) > 60):
                    seen.add(mark)
                    new.append((written, written_too, behind))
        layer = new
    return None


class BookCase(Case):
    """A test case that can tell what a chain shows."""

    def walked(self, book, word, situation, steps):
        """Return the meanings behind 0, 1, 2 .. steps, and the last word."""
        self.assertIsInstance(steps, tuple)
        meanings = [meaning_of(word, situation)]
        now, here = word, situation
        for step in steps:
            self.assertIsInstance(step, Step)
            now = told_written(book, now, here, step)
            here = gone_on(here, step)
            meanings.append(meaning_of(now, here))
        return meanings

    def check_wrong_chain(self, book, word, chain, steps):
        """Check that a chain has so many steps, of which the last one alone errs."""
        meanings = self.walked(book, word, chain.situation, chain.steps)
        self.assertEqual(len(chain.steps), steps)
        self.assertEqual(meanings[:-1], [meanings[0]] * steps)
        self.assertNotEqual(meanings[-1], meanings[0])
