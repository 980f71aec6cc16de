"""Whether a talk is heard alike in several tongues."""

from whosetomorrow.alike import first_unlike
from whosetomorrow.tonguegroups import forms_by


class Unsafe:
    """Two tongues under which a talk has unlike forms, and the first word place that shows it."""

    def __init__(self, one, other, path, index):
        self.one = one
        self.other = other
        self.path = path
        self.index = index

    def __eq__(self, other):
        return (
            isinstance(other, Unsafe) and self.one == other.one and self.other == other.other
            and self.path == other.path and self.index == other.index
        )


def is_safe(talk, tongues):
    """Tell whether a talk has one form under all the tongues."""
    return len(forms_by(talk, tongues)) == 1


def unsafe_place(talk, tongues):
    """Return None if a talk is safe in the tongues, otherwise where and in which tongues it is not."""
    groups = forms_by(talk, tongues)
    if len(groups) == 1:
        return None
    form, one = groups[0]
    other_form, other = groups[1]
    path, index = first_unlike(form, other_form)
    return Unsafe(one[0], other[0], path, index)
