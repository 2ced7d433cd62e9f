"""Whether two programs are alike, and a shortest row of replies that parts them."""

from pulledonce.pairs import parting_row
from pulledonce.states import States


def parting(first, second):
    """A shortest row of replies that parts two programs, or None if they are alike."""
    return parting_row(States(first), States(second), (0, 0, ()), ())


def alike(first, second):
    """Whether two programs show the same events for all rows of replies."""
    return parting(first, second) is None
