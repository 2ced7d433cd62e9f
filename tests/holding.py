"""Points [4] and [11] once more, as stages that pull things from each other and tell what they hold."""

import re

from tests.reference import Failed, Paused, Replies, text


class Source:
    def __init__(self, talk, name):
        self.talk, self.name, self.many, self.held = talk, name, 0, []

    def pull(self):
        if self.talk.answer("ask", self.name) == "none":
            return None
        self.many += 1
        return f"{self.name}{self.many - 1}"


class Stage:
    """Gives things until it ends; a thing is a text or a tuple, None is the end."""

    def __init__(self, talk, before, detail):
        self.talk, self.before, self.detail = talk, before, detail
        self.held, self.count, self.ended, self.over = [], 0, False, False

    def pull(self):
        if self.ended:
            return None
        thing = self.give()
        if thing is None:
            self.ended = True
        return thing

    def ask(self):
        """A thing from the stage before, which is not asked again when it has ended."""
        thing = None if self.over else self.before.pull()
        self.over = thing is None
        return thing

    def test(self, thing):
        return self.talk.answer("test", self.detail, text(thing)) == "yes"

    def hold(self):
        """Asks until as many things are held as the stage is to hold."""
        while len(self.held) < self.detail and not self.over:
            thing = self.ask()
            if thing is not None:
                self.held.append(thing)


class Map(Stage):
    def give(self):
        thing = self.ask()
        if thing is None:
            return None
        self.talk.answer("call", self.detail, text(thing))
        return f"{self.detail}({text(thing)})"


class Keep(Stage):
    def give(self):
        thing = self.ask()
        while thing is not None and not self.test(thing):
            thing = self.ask()
        return thing


class While(Stage):
    def give(self):
        thing = self.ask()
        return thing if thing is not None and self.test(thing) else None


class After(Keep):
    def give(self):
        if self.count == 1:
            return self.ask()
        thing = Keep.give(self)
        self.count = 1
        return thing


class Take(Stage):
    def give(self):
        self.count += 1
        return self.ask() if self.count <= self.detail else None


class Skip(Stage):
    def give(self):
        while self.count < self.detail:
            self.count += 1
            if self.ask() is None:
                return None
        return self.ask()


class Lots(Stage):
    def give(self):
        self.hold()
        row, self.held = tuple(self.held), []
        return row or None


class Gather(Stage):
    def give(self):
        self.hold()
        return self.held.pop(0) if self.held else None


class Flat(Stage):
    def give(self):
        if not self.held:
            self.held = list(self.ask() or ())
        return self.held.pop(0) if self.held else None


class Zip(Stage):
    def give(self):
        own = self.ask()
        if own is None:
            return None
        self.held = [own]
        other = self.detail.pull()
        self.held = []
        return None if other is None else (own, other)


STAGES = {
    "map": Map, "keep": Keep, "while": While, "after": After, "take": Take, "skip": Skip, "lots": Lots,
    "flat": Flat, "gather": Gather, "zip": Zip,
}


class HoldingRun(Replies):
    """A run that notes how many different items are held at each event."""

    def __init__(self, program, words):
        Replies.__init__(self, words)
        self.stages = []
        self.numbers = []
        last = self.build(program)
        try:
            thing = last.pull()
            while thing is not None and self.answer("give", text(thing)) == "more":
                thing = last.pull()
        except (Failed, Paused):
            pass

    def build(self, program):
        last = Source(self, program.source)
        for kind, *details in program.stages:
            detail = details[0] if details else None
            last = STAGES[kind](self, last, self.build(detail) if kind == "zip" else detail)
            self.stages.append(last)
        return last

    def answer(self, *event):
        words = [text(thing) for stage in self.stages for thing in stage.held]
        if event[0] in ("call", "test", "give"):
            words.append(event[-1])
        self.numbers.append(len(set(re.findall("[a-d][0-9]+", " ".join(words)))))
        return Replies.answer(self, *event)


def held_at_events(program, words):
    """The number of items held at each event that has replies, in a run with so many replies."""
    return HoldingRun(program, words).numbers
