"""A bench on which changes are put to a found letter, and taken back."""

from whosetomorrow.changes import apply_changes, change_fault, tidy_change, what_changes
from whosetomorrow.errors import BadChange, NoChange
from whosetomorrow.words import is_whole


class Kept:
    """What a bench was like when a trial began, and ahead of it when the trial around it began."""

    def __init__(self, letter, standing, log, given, kept):
        self.letter = letter
        self.standing = standing
        self.log = log
        self.given = given
        self.kept = kept


class Bench:
    """A found letter with standing changes."""

    def __init__(self, found):
        self.start = found
        self.letter = found
        self.standing = ()
        self.log = ()
        self.given = 0
        self.kept = None

    def put(self, change):
        """Put a change to the letter and return its number."""
        fault = change_fault(self.start, change)
        if fault is not None:
            raise BadChange(0, fault)
        tidy = tidy_change(change)
        changes = [other for _, other in self.standing]
        if what_changes(tidy) in [what_changes(other) for other in changes]:
            raise BadChange(0, "double")
        self.letter = apply_changes(self.start, changes + [tidy])
        self.given = self.given + 1
        self.standing = self.standing + ((self.given, tidy),)
        self.log = self.log + (("put", self.given, tidy),)
        return self.given

    def take_back(self, number):
        """Take a standing change back."""
        taken = [change for at, change in self.standing if is_whole(number) and at == number]
        if len(taken) == 0:
            raise NoChange(number)
        left = tuple([pair for pair in self.standing if pair[0] != number])
        self.letter = apply_changes(self.start, [change for _, change in left])
        self.standing = left
        self.log = self.log + (("back", number, taken[0]),)

    def trial(self):
        """Return an object for `with`: at the end of the block all is as when it began."""
        return self

    def tried(self, call):
        """Return what a call with this bench returns within a trial."""
        with self.trial() as bench:
            return call(bench)

    def __enter__(self):
        self.kept = Kept(self.letter, self.standing, self.log, self.given, self.kept)
        return self

    def __exit__(self, kind, value, trace):
        kept = self.kept
        self.letter = kept.letter
        self.standing = kept.standing
        self.log = kept.log
        self.given = kept.given
        self.kept = kept.kept

    def __len__(self):
        return len(self.standing)

    def __iter__(self):
        return iter(self.standing)
