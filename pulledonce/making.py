"""A loop of a program.

A state of the loop stands for a state of a run in which the items, and what functions
gave, are known by their spots alone: each one is in the register with the number of its
spot. A thing that comes goes into the first register behind these; then moves put all
that is still there behind the reply into its new spots.
"""

from pulledonce.machines import first_state, next_state, nodes_of, state_behind_item
from pulledonce.states import Numbering, filled_with_spots, without_what_is_over
from pulledonce.things import ITEM, things_in_row


def loop_shape(thing):
    """The shape of a loop for a thing that consists of rows and spots."""
    shape, spots = thing
    if shape == ITEM:
        return spots[0]
    return tuple([loop_shape(inner) for inner in things_in_row(thing)])


class Maker:
    """The states of a program that the loop has so far, by their numbers."""

    def __init__(self, program):
        self.nodes = nodes_of(program)
        self.numbers = {}
        self.rows = []

    def way_for(self, state):
        """The way to a state of a run, whose items are registers."""
        numbering = Numbering()
        shapes = numbering.shapes_of(without_what_is_over(self.nodes, state))
        if shapes not in self.numbers:
            self.numbers[shapes] = len(self.rows)
            self.rows.append(shapes)
        moves = [(spot, former) for spot, former in enumerate(numbering.met) if spot != former]
        return (self.numbers[shapes], tuple(moves))

    def loop_state(self, number):
        """The state of the loop for one of the rows; the ways lead to rows, too."""
        state = filled_with_spots(self.rows[number])
        event = state[0]
        if event[0] == "ask":
            free = self.first_free(state)
            return ("ask", event[1], free, self.way_of_item(state, free), self.way_of_word(state, "none"))
        if event[0] == "call":
            free = self.first_free(state)
            return ("call", event[1], loop_shape(event[2]), free, self.way_of_item(state, free))
        if event[0] == "test":
            ways = (self.way_of_word(state, "yes"), self.way_of_word(state, "no"))
            return ("test", event[1], loop_shape(event[2])) + ways
        if event[0] == "give":
            return ("give", loop_shape(event[1]), self.way_of_word(state, "more"))
        return event

    def first_free(self, state):
        numbering = Numbering()
        numbering.shapes_of(state)
        return len(numbering.met)

    def way_of_item(self, state, free):
        """The way behind what comes into a register, from a source or a function."""
        return self.way_for(state_behind_item(self.nodes, state, free))

    def way_of_word(self, state, word):
        return self.way_for(next_state(self.nodes, state, word, 0))


def made(program):
    """A loop of a program."""
    maker = Maker(program)
    maker.way_for(first_state(maker.nodes))
    loop = []
    while len(loop) < len(maker.rows):
        loop.append(maker.loop_state(len(loop)))
    return loop
