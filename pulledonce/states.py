"""The states of a program whatever the numbers of its items, which are finitely many.

Such a state has shapes instead of things, and its items are known by their spots alone:
0, 1, .. through the event and then through what is held, node by node. What becomes of
the items behind a reply is told by the tuple of their former spots; the item that an
"item" brings has the spot behind all others.

Of the replies so far a state keeps those alone that can bind a later one. Calls are not
among them, since a thing that went into a call shows inside of its result alone, and
neither is "no", since a thing of which a test says so is gone.
"""

from pulledonce.machines import TAKER, WITH_THING, first_state, next_state, nodes_of, replies_to
from pulledonce.things import ITEM


def tests_behind(nodes, number):
    """The names of the tests that the things of a node can come to."""
    names = []
    asker = nodes[number].asker
    while asker != TAKER:
        if nodes[asker].kind in ("keep", "while", "after"):
            names.append(nodes[asker].detail)
        asker = nodes[asker].asker
    return names


def asks_no_more(node, count):
    """Whether a node never asks again, as its integer among the counts tells."""
    if node.kind == "take":
        return count == 0
    return node.kind in ("lots", "gather") and count == 1


def without_what_is_over(nodes, state):
    """A state of a run without the counts and things of the nodes that are never asked again."""
    event, place, counts, held = state
    over = [False] * len(nodes)
    for number in reversed(range(len(nodes))):
        asker = nodes[number].asker
        if asker == TAKER:
            over[number] = event[0] in ("end", "failed", "closed")
        else:
            over[number] = over[asker] or asks_no_more(nodes[asker], counts[asker])
    if not any(over):
        return state
    counts = [0 if gone else count for count, gone in zip(counts, over)]
    held = [() if gone else things for things, gone in zip(held, over)]
    return (event, place, tuple(counts), tuple(held))


def thing_of_spots(shape, first):
    """A thing with a shape, with spots from a first one on for its items."""
    return (shape, tuple(range(first, first + shape.count(ITEM))))


def filled_with_spots(state):
    """A state of a run, from one that has shapes instead of its things."""
    event, place, counts, held = state
    first = 0
    if event[0] in WITH_THING:
        event = event[:-1] + (thing_of_spots(event[-1], 0),)
        first = len(event[-1][1])
    filled = []
    for shapes in held:
        things = []
        for shape in shapes:
            things.append(thing_of_spots(shape, first))
            first += shape.count(ITEM)
        filled.append(tuple(things))
    return (event, place, counts, tuple(filled))


class Numbering:
    """Meets the items of a state of a run in the sequence of their spots, and the nodes that have them."""

    def __init__(self):
        self.met = []
        self.homes = []

    def shape_of(self, thing, home):
        shape, items = thing
        self.met.extend(items)
        self.homes.extend([home] * len(items))
        return shape

    def shapes_of(self, state):
        """A state with shapes instead of its things."""
        event, place, counts, held = state
        if event[0] in WITH_THING:
            event = event[:-1] + (self.shape_of(event[-1], place),)
        held_shapes = []
        for number, things in enumerate(held):
            held_shapes.append(tuple([self.shape_of(thing, number) for thing in things]))
        return (event, place, counts, tuple(held_shapes))

    def lasting(self, facts, later):
        """The facts, with spots for the items, whose tests can come again, if later has those of each node."""
        spots = {item: spot for spot, item in enumerate(self.met)}
        found = []
        for kind, name, (shape, items) in facts:
            homes = [self.homes[spots[item]] for item in items if item in spots]
            if len(homes) == len(items) and all([name in later[home] for home in homes]):
                found.append((kind, name, (shape, tuple([spots[item] for item in items]))))
        return tuple(sorted(set(found)))


class State:
    """A state with shapes, the facts that can bind a later reply, and what can be replied now."""

    def __init__(self, key, size):
        self.key = key
        self.shapes, self.facts, self.words = key
        self.shown = self.shapes[0]
        self.size = size
        self.moves = {}

    def shown_size(self):
        """The number of the items in the event."""
        return self.shown[-1].count(ITEM)

    def running(self):
        """The state of a run, with spots for its items."""
        return filled_with_spots(self.shapes)


class States:
    """The states of a program that have been met, by their numbers; the first one has the number 0.

    What nodes that are never asked again hold is left out of them, unless the caller wants it.
    """

    def __init__(self, program, *, with_what_is_over=False):
        self.program = program
        self.with_what_is_over = with_what_is_over
        self.nodes = nodes_of(program)
        self.later = {number: tests_behind(self.nodes, number) for number in range(len(self.nodes))}
        self.later[TAKER] = []
        self.numbers = {}
        self.rows = []
        self.number_of(first_state(self.nodes), ())

    def number_of(self, state, facts):
        """The number of a state of a run, and the tuple of its items by their spots.

        The facts are the tests with the reply "yes" so far, as events.
        """
        numbering = Numbering()
        if not self.with_what_is_over:
            state = without_what_is_over(self.nodes, state)
        shapes = numbering.shapes_of(state)
        lasting = numbering.lasting(facts, self.later) if facts else ()
        words = tuple(replies_to(state[0], {fact: "yes" for fact in facts}))
        key = (shapes, lasting, words)
        if key not in self.numbers:
            self.numbers[key] = len(self.rows)
            self.rows.append(State(key, len(numbering.met)))
        return (self.numbers[key], tuple(numbering.met))

    def move(self, number, word):
        """The number of the state behind a reply, and the former spots of its items."""
        moves = self.rows[number].moves
        if word not in moves:
            moves[word] = self._moved(self.rows[number], word)
        return moves[word]

    def _moved(self, state, word):
        running = state.running()
        facts = state.facts
        if word == "yes":
            facts = facts + (running[0],)
        return self.number_of(next_state(self.nodes, running, word, state.size), facts)
