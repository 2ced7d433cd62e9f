"""Points [3] to [5] once more, written as Python's own generators, to compare machines with."""

REPLIES = {
    "ask": ["item", "none"],
    "call": ["done", "fails"],
    "test": ["yes", "no", "fails"],
    "give": ["more", "close"],
    "end": [],
    "failed": [],
    "closed": [],
}


class Paused(Exception):
    """The replies are used up."""


class Failed(Exception):
    """A function has failed."""


class Replies:
    """Notes the events and answers each one with the next reply."""

    def __init__(self, words):
        self.words = list(words)
        self.events = []

    def answer(self, *event):
        self.events.append(event)
        if len(self.events) > len(self.words):
            raise Paused
        word = self.words[len(self.events) - 1]
        if word == "fails":
            raise Failed
        return word


def text(thing):
    if isinstance(thing, tuple):
        return "[" + ", ".join(text(inner) for inner in thing) + "]"
    return thing


def items(talk, source):
    number = 0
    while talk.answer("ask", source) == "item":
        yield f"{source}{number}"
        number += 1


def mapped(talk, things, name):
    for thing in things:
        talk.answer("call", name, text(thing))
        yield f"{name}({text(thing)})"


def kept(talk, things, name):
    for thing in things:
        if talk.answer("test", name, text(thing)) == "yes":
            yield thing


def whiled(talk, things, name):
    for thing in things:
        if talk.answer("test", name, text(thing)) == "no":
            return
        yield thing


def behind(talk, things, name):
    for thing in things:
        if talk.answer("test", name, text(thing)) == "yes":
            yield thing
            break
    yield from things


def taken(talk, things, n):
    for _ in range(n):
        for thing in things:
            yield thing
            break
        else:
            return


def skipped(talk, things, n):
    for _ in range(n):
        if next(things, None) is None:
            return
    yield from things


def lots(talk, things, n):
    row = []
    for thing in things:
        row.append(thing)
        if len(row) == n:
            yield tuple(row)
            row = []
    if row:
        yield tuple(row)


def flat(talk, things):
    for row in things:
        yield from row


def gathered(talk, things, n):
    row = []
    for thing in things:
        row.append(thing)
        if len(row) == n:
            yield row.pop(0)
    yield from row


def zipped(talk, things, program):
    others = stream(talk, program)
    for thing in things:
        other = next(others, None)
        if other is None:
            return
        yield (thing, other)


STAGES = {
    "map": mapped, "keep": kept, "while": whiled, "after": behind, "take": taken, "skip": skipped,
    "lots": lots, "flat": flat, "gather": gathered, "zip": zipped,
}


def stream(talk, program):
    things = items(talk, program.source)
    for kind, *details in program.stages:
        things = STAGES[kind](talk, things, *details)
    return things


def reference_events(program, words):
    """The events of a run with so many replies, which must be ones that it can have."""
    talk = Replies(words)
    try:
        for thing in stream(talk, program):
            if talk.answer("give", text(thing)) == "close":
                return talk.events + [("closed",)]
        return talk.events + [("end",)]
    except Failed:
        return talk.events + [("failed",)]
    except Paused:
        return talk.events
