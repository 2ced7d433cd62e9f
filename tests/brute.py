"""Answers found the long way: by all rows of replies up to a length, with the reference alone."""

from itertools import product

from pulledonce.programs import Program
from tests.reference import REPLIES, reference_events
from tests.support import error_of


def replies_after(events, words):
    """The replies to the last event, as [5] tells it, from all events and replies so far."""
    event = events[-1]
    before = dict(zip(events, words))
    if event[0] in ("call", "test") and event in before:
        return [before[event]]
    if event[0] == "ask" and before.get(event) == "none":
        return ["none"]
    return REPLIES[event[0]]


def runs(program, most, ahead=()):
    """Yields all rows of replies up to a length behind the ones ahead, shorter ones first, with the events."""
    rows = [tuple(ahead)]
    for _ in range(most + 1):
        longer = []
        for row in rows:
            events = reference_events(program, row)
            yield row, events
            longer.extend([row + (word,) for word in replies_after(events, row)])
        rows = longer


def shortest_difference(first, second, ahead_of_first, ahead_of_second, most):
    """A shortest row up to a length behind which two runs differ in the event or its replies, or None."""
    rows = [()]
    for _ in range(most + 1):
        longer = []
        for row in rows:
            words = [tuple(ahead_of_first) + row, tuple(ahead_of_second) + row]
            events = [reference_events(first, words[0]), reference_events(second, words[1])]
            replies = [replies_after(events[0], words[0]), replies_after(events[1], words[1])]
            if events[0][-1] != events[1][-1] or replies[0] != replies[1]:
                return list(row)
            longer.extend([row + (word,) for word in replies[0]])
        rows = longer
    return None


def first_shows(program, most):
    """A dict of the events that show within so many replies, and the length of a shortest row for each."""
    lengths = {}
    for row, events in runs(program, most):
        lengths.setdefault(events[-1], len(row))
    return lengths


def programs(stages, most):
    """Yields all programs of source a with up to so many stages out of some."""
    for many in range(most + 1):
        for row in product(stages, repeat=many):
            if error_of(Program, "a", row) is None:
                yield Program("a", row)
