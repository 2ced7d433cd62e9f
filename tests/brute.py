"""Answers found the long way: by all rows of replies up to a length, with the reference alone."""

from itertools import product

from pulledonce.loops import run_loop
from pulledonce.programs import Program
from tests.reference import REPLIES, reference_events
from tests.support import error_of


def replies_after(events, words):
    """The replies to the last event, as [5] tells it, from all events and replies so far."""
    event = events[-1]
    before = dict(zip(events, words))
    if event[0] in ("call", "test") and event in before:
        return [before[event]]
    if event[0] == "ask" and before.get(event) == "none":
        return ["none"]
    return REPLIES[event[0]]


def runs(program, most, ahead=()):
    """Yields all rows of replies up to a length behind the ones ahead, shorter ones first, with the events."""
    rows = [tuple(ahead)]
    for _ in range(most + 1):
        longer = []
        for row in rows:
            events = reference_events(program, row)
            yield row, events
            longer.extend([row + (word,) for word in replies_after(events, row)])
        rows = longer


def shortest_difference(first, second, ahead_of_first, ahead_of_second, most):
    """A shortest row up to a length behind which two runs differ in the event or its replies, or None."""
    rows = [()]
    for _ in range(most + 1):
        longer = []
        for row in rows:
            words = [tuple(ahead_of_first) + row, tuple(ahead_of_second) + row]
            events = [reference_events(first, words[0]), reference_events(second, words[1])]
            replies = [replies_after(events[0], words[0]), replies_after(events[1], words[1])]
            if events[0][-1] != events[1][-1] or replies[0] != replies[1]:
                return list(row)
            longer.extend([row + (word,) for word in replies[0]])
        rows = longer
    return None


def first_shows(program, most):
    """A dict of the events that show within so many replies, and the length of a shortest row for each."""
    lengths = {}
    for row, events in runs(program, most):
        lengths.setdefault(events[-1], len(row))
    return lengths


def programs(stages, most):
    """Yields all programs of source a with up to so many stages out of some."""
    for many in range(most + 1):
        for row in product(stages, repeat=many):
            if error_of(Program, "a", row) is None:
                yield Program("a", row)


def loop_difference(program, loop, most):
    """A shortest row up to a length behind which a program and a loop differ in the event, or None."""
    rows = [()]
    for _ in range(most + 1):
        longer = []
        for row in rows:
            events = reference_events(program, row)
            if run_loop(loop, list(row))[-1] != events[-1]:
                return list(row)
            longer.extend([row + (word,) for word in replies_after(events, row)])
        rows = longer
    return None


def drawn_row(program, length, draw):
    """A row of replies that a run can have, up to a length, mostly such that the run goes on."""
    row = []
    events = reference_events(program, row)
    while len(row) < length and replies_after(events, row):
        words = replies_after(events, row)
        row.append(words[0] if draw.random() < 0.7 else draw.choice(words))
        events = reference_events(program, row)
    return row


def weight(program):
    """The weight of a program, as stage 8 of the interface tells it."""
    product_of_all = 1
    for kind, *details in program.stages:
        if kind in ("take", "skip", "lots", "gather"):
            product_of_all *= details[0] + 1
        elif kind in ("after", "flat", "zip"):
            product_of_all *= 2
        if kind == "zip":
            product_of_all *= weight(details[0])
    return product_of_all


def room(program):
    """The room of a program, as [6] tells it."""
    product_of_all = 1
    for kind, *details in program.stages:
        if kind in ("lots", "gather"):
            product_of_all *= details[0]
        elif kind == "zip":
            product_of_all *= room(details[0])
    return product_of_all


def many_stages(program):
    return sum(1 + (many_stages(stage[1]) if stage[0] == "zip" else 0) for stage in program.stages)


def drawn_program(draw, sources="abcd", most=6):
    """Some program with some of the sources, which begins with the first one."""
    program = Program(sources[0])
    for _ in range(draw.randrange(most + 1)):
        kind = draw.choice("map keep keep while after take skip lots lots flat gather zip".split())
        free = [source for source in sources[1:] if source not in program.sources]
        if kind in ("map", "keep", "while", "after"):
            stage = (kind, draw.choice("fg"))
        elif kind == "zip":
            stage = (kind, drawn_program(draw, free, 4)) if free else ("take", 2)
        else:
            stage = (kind, draw.choice([1, 1, 2, 2, 3, 4])) if kind != "flat" else (kind,)
        if error_of(program.then, stage) is None:
            program = program.then(stage)
    return program
