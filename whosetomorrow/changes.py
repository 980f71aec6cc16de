"""Changes of found letters."""

from whosetomorrow.errors import BadChange, BadTalk, NoFit, NoLetter, NoPath
from whosetomorrow.facts import Facts, is_fact
from whosetomorrow.found import FoundLetter
from whosetomorrow.talks import Plain
from whosetomorrow.talkways import remade_talk, report_number, row_at, told_manners, word_at, words_of
from whosetomorrow.words import find_kind, is_sequence, is_unknown, is_whole, kind_of

LENGTHS = {"word": 4, "add": 4, "manner": 2, "tongue": 3, "fact": 2}
LETTERS = ("person", "you", "today", "here")
COUNTED = ("today", "that day", "date")
MOST_FACTS = 8


def has_change_shape(change):
    """Tell whether a thing has the first word, the length, the letter and the shifts of a change."""
    if not is_sequence(change) or len(change) == 0 or not isinstance(change[0], str):
        return False
    if change[0] not in LENGTHS or len(change) != LENGTHS[change[0]]:
        return False
    if change[0] != "tongue":
        return True
    return change[1] in LETTERS and isinstance(change[2], bool)


def place_fault(talk, path, index):
    """Return "path" or "index" if there is no such word place, otherwise None."""
    try:
        row_at(talk, path)
    except NoPath:
        return "path"
    try:
        word_at(talk, path, index)
    except NoPath:
        return "index"
    return None


def manner_fault(talk, path):
    """Return "path" if there is no report at a path, otherwise None."""
    try:
        report_number(talk, path)
    except NoPath:
        return "path"
    return None


def new_word_fault(talk, path, index, word):
    """Return the first word that applies if a word cannot be put at a word place, or None."""
    fault = place_fault(talk, path, index)
    if fault is not None:
        return fault
    if find_kind(word) != kind_of(word_at(talk, path, index)):
        return "kind"
    return "kind" if is_unknown(word) and isinstance(row_at(talk, path), Plain) else None


def amount_fault(talk, path, index, k):
    """Return the first word that applies if k cannot be added at a word place, or None."""
    fault = place_fault(talk, path, index)
    if fault is not None:
        return fault
    if word_at(talk, path, index)[0] not in COUNTED:
        return "kind"
    return None if is_whole(k) and -30 <= k <= 30 and k != 0 else "amount"


def change_fault(found, change):
    """Return the first word that applies to a change of a letter judged alone, or None."""
    if not has_change_shape(change):
        return "change"
    head = change[0]
    if head == "word":
        return new_word_fault(found.talk, change[1], change[2], change[3])
    if head == "add":
        return amount_fault(found.talk, change[1], change[2], change[3])
    if head == "manner":
        return manner_fault(found.talk, change[1])
    return "fact" if head == "fact" and not is_fact(change[1]) else None


def tidy_change(change):
    """Return a change with tuples for sequences."""
    if change[0] in ("word", "add", "manner"):
        return (change[0], tuple(change[1])) + tuple(change[2:])
    return tuple(change)


def what_changes(change):
    """Return what two changes must not have in common."""
    tidy = tidy_change(change)
    return tidy[:3] if tidy[0] in ("word", "add") else tidy[:2]


def check_changes(found, changes):
    """Refuse what are no changes of a letter."""
    if not is_sequence(changes):
        raise BadChange(0, "sequence")
    touched = []
    for index, change in enumerate(changes):
        fault = change_fault(found, change)
        if fault is not None:
            raise BadChange(index, fault)
        if what_changes(change) in touched:
            raise BadChange(index, "double")
        touched.append(what_changes(change))


def changes_of(changes, head):
    """Return the changes with this first word, without it."""
    return [tidy_change(change)[1:] for change in changes if change[0] == head]


def word_behind(word, k):
    """Return the word that counts k days more."""
    if word[0] not in COUNTED:
        raise NoLetter("word")
    number = word[1] + k
    if word[0] != "date" and not -30 <= number <= 30:
        raise NoLetter("word")
    return (word[0], number)


def words_behind(talk, changes):
    """Return the words of a talk behind changes, in the order of reading."""
    put = {(path, index): word for path, index, word in changes_of(changes, "word")}
    added = {(path, index): k for path, index, k in changes_of(changes, "add")}
    words = []
    for path, index, word in words_of(talk):
        new = put.get((path, index), word)
        words.append(word_behind(new, added[(path, index)]) if (path, index) in added else new)
    return words


def talk_behind(talk, changes):
    """Return the talk behind changes."""
    words = words_behind(talk, changes)
    manners = list(told_manners(talk))
    for change in changes_of(changes, "manner"):
        number = report_number(talk, change[0])
        manners[number] = "indirect" if manners[number] == "own" else "own"
    try:
        return remade_talk(talk, words, manners)
    except BadTalk:
        raise NoLetter("outside") from None


def tongues_behind(tongues, changes):
    """Return the tongues that stay behind changes."""
    kept = list(tongues)
    for letter, shifts in changes_of(changes, "tongue"):
        kept = [tongue for tongue in kept if tongue.shifts[LETTERS.index(letter)] == shifts]
    if len(kept) == 0:
        raise NoLetter("tongue")
    return tuple(kept)


def apply_changes(found, changes):
    """Return the letter behind changes."""
    check_changes(found, changes)
    talk = talk_behind(found.talk, changes)
    tongues = tongues_behind(found.tongues, changes)
    rows = found.facts.rows + tuple([change[0] for change in changes_of(changes, "fact")])
    if len(rows) > MOST_FACTS:
        raise NoLetter("facts")
    try:
        return FoundLetter(talk, tongues, Facts(rows))
    except NoFit:
        raise NoLetter("facts") from None
