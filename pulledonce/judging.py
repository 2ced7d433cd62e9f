"""Whether a loop is one of a program, and a shortest row of replies that parts both.

A place is a tuple (number, at, things): the number of a state of the program, the number
of a state of the loop, and what each register has: a thing with the spots of its items in
the state of the program, or None. None is what will not be read any more, and also what
has an item that the program has no longer: the loop can not show that without being parted.
"""

from pulledonce.errors import BadLoop
from pulledonce.loops import (
    MANY_REGISTERS, event_of, filled_by, is_loop, shown_registers, things_behind, way_behind, words_of,
)
from pulledonce.machines import WITH_THING
from pulledonce.search import shortest_row
from pulledonce.states import States, thing_of_spots
from pulledonce.things import item_thing


def read_ahead_of(way, read):
    """The registers whose things are read behind a way, if read has those for the state that it leads to."""
    after, moves = way
    sources = {first: second for first, second in moves}
    return [sources.get(target, target) for target in read[after]]


def read_at(state, read):
    """The registers whose things are read from a state on, if read has those for the next ones."""
    found = shown_registers(state)
    for word in words_of(state):
        filled = filled_by(state, word)
        found = found + [target for target in read_ahead_of(way_behind(state, word), read) if target not in filled]
    return sorted(set(found))


def registers_read(loop):
    """For each state of a loop, the registers whose things can show from there on."""
    read = [[] for _ in loop]
    changes = True
    while changes:
        changes = False
        for number in reversed(range(len(loop))):
            found = read_at(loop[number], read)
            if found != read[number]:
                read[number] = found
                changes = True
    return read


def kept_thing(thing, spots):
    """A thing with new spots for its items, or None if not all of them have one."""
    if thing is None or not all([item in spots for item in thing[1]]):
        return None
    return (thing[0], tuple([spots[item] for item in thing[1]]))


class Judge:
    """A program and a loop, side by side."""

    def __init__(self, program, loop):
        self.states = States(program)
        self.loop = loop
        self.read = registers_read(loop)

    def start(self):
        return (0, 0, tuple([None] * MANY_REGISTERS))

    def shown_by_program(self, number):
        """The event of a state of the program, with spots for the items of its thing."""
        event = self.states.rows[number].shown
        return event[:-1] + (thing_of_spots(event[-1], 0),) if event[0] in WITH_THING else event

    def differ(self, place):
        """Whether other events show."""
        number, at, things = place
        state = self.loop[at]
        if any([things[target] is None for target in shown_registers(state)]):
            return True
        return event_of(state, things) != self.shown_by_program(number)

    def behind(self, place):
        """The list of tuples (word, place) of those behind a place where both show the same event."""
        words = self.states.rows[place[0]].words
        return [(word, self.place_behind(place, word)) for word in words if word in words_of(self.loop[place[1]])]

    def place_behind(self, place, word):
        number, at, things = place
        state = self.loop[at]
        item = item_thing(self.states.rows[number].size)
        moved = things_behind(state, word, self.shown_by_program(number), item, things)
        after, former = self.states.move(number, word)
        spots = {spot: new for new, spot in enumerate(former)}
        goal = way_behind(state, word)[0]
        kept = [None] * MANY_REGISTERS
        for target in self.read[goal]:
            kept[target] = kept_thing(moved[target], spots)
        return (after, goal, tuple(kept))


def loop_parting(program, value):
    """A shortest row of replies that parts a program and a loop, or None."""
    if not is_loop(value):
        raise BadLoop(value)
    judge = Judge(program, value)
    return shortest_row(judge.start(), judge.differ, judge.behind)


def is_loop_of(program, value):
    """Whether any value is a loop of a program."""
    return is_loop(value) and loop_parting(program, value) is None
