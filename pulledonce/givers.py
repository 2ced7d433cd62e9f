"""Two programs without zips that are given one list, item by item, and give the same things or not.

A place is a tuple (states, ahead, facts): the states of both programs' runs; for each
program the tuple of the things that it has given and the other one has not yet; and the
replies to tests that can come again, as tuples (name, thing, word). Its items are known
by their spots alone, 0, 1, .. through the state of the first program and its things ahead,
and then through those of the second one; an item that is one for both has one spot.

A step is a tuple (note, place, former): what is done, the place behind it, and for each
spot there the spot that the item had before. A note is (LONGER,), if the list has one more
item, which has the spot behind all others (items of two sources have two such spots), or
(word, name, thing) for a reply to a test that is not bound, or else ().
"""

from pulledonce.forms import simplified
from pulledonce.links import (
    Links, nodes_with_whole_rows, renamed_state, renamed_thing, renamed_things, things_of,
)
from pulledonce.machines import TAKER, WITH_THING, first_state, next_state, nodes_of_stages, state_behind_item
from pulledonce.states import without_what_is_over
from pulledonce.things import ITEM

LONGER = "longer"

# What is replied to calls, none of which fails, and by who takes the things.
WORDS = {"call": "done", "give": "more"}


def without_what_both_gave(ahead):
    """The things ahead on both sides, without the equal ones that they begin with."""
    first, second = ahead
    many = 0
    while many < min(len(first), len(second)) and first[many] == second[many]:
        many += 1
    return (first[many:], second[many:])


def changed(pair, side, entry):
    return (entry, pair[1]) if side == 0 else (pair[0], entry)


class Givers:
    """Two programs, and the places to which they come."""

    def __init__(self, first, second):
        self.rows = (simplified(first.stages), simplified(second.stages))
        self.nodes = (nodes_of_stages(first.source, self.rows[0]), nodes_of_stages(second.source, self.rows[1]))
        self.one_source = first.source == second.source
        self.later = (tests_from(self.nodes[0]), tests_from(self.nodes[1]))
        self.whole = (nodes_with_whole_rows(self.nodes[0]), nodes_with_whole_rows(self.nodes[1]))

    def start(self):
        return ((first_state(self.nodes[0]), first_state(self.nodes[1])), ((), ()), ())

    def parted(self, place):
        """Whether both have given other things, or one can not give any more what the other one gave."""
        states, ahead, _ = place
        if ahead[0] and ahead[1]:
            return True
        return any([len(ahead[side]) > 0 and states[1 - side][0] == ("end",) for side in (0, 1)])

    def behind(self, place):
        """The list of the steps from a place."""
        states, ahead, facts = place
        side = side_to_go(states, ahead)
        if side is not None:
            return [self.tested(place, side, word) for word in ("yes", "no")]
        waiting = [each for each in (0, 1) if states[each][0][0] == "ask"]
        return [self.longer(place, waiting), self.ended(place, waiting)] if waiting else []

    def tested(self, place, side, word):
        """The step behind a reply to a test of one program."""
        states, ahead, facts = place
        _, name, thing = states[side][0]
        return self.step((word, name, thing), states, ahead, facts + ((name, thing, word),))

    def longer(self, place, waiting):
        """The step behind which the list has one more item."""
        states, ahead, facts = place
        new = many_items(states, ahead)
        for side in waiting:
            item = new if self.one_source else new + side
            states = changed(states, side, state_behind_item(self.nodes[side], states[side], item))
        return self.step((LONGER,), states, ahead, facts)

    def ended(self, place, waiting):
        """The step behind which the list has no more items."""
        states, ahead, facts = place
        for side in waiting:
            states = changed(states, side, next_state(self.nodes[side], states[side], "none", 0))
        return self.step((), states, ahead, facts)

    def step(self, note, states, ahead, facts):
        """The step to where both stand when all that is known has been replied."""
        states, ahead = self.gone_on(states, ahead, facts)
        states = [without_what_is_over(self.nodes[side], states[side]) for side in (0, 1)]
        names, former = Links(states, ahead, self.whole).new_spots()
        place = (
            tuple([renamed_state(states[side], names[side]) for side in (0, 1)]),
            tuple([renamed_things(ahead[side], names[side]) for side in (0, 1)]),
            self.lasting(states, facts, names),
        )
        return (note, place, former)

    def gone_on(self, states, ahead, facts):
        """The states and the things ahead, when both have gone on until they are parted or ask what is open."""
        known = {(name, thing): word for name, thing, word in facts}
        side = side_to_go(states, ahead)
        while side is not None and not self.parted((states, ahead, facts)):
            event = states[side][0]
            if event[0] == "test" and event[1:] not in known:
                break
            if event[0] == "give":
                ahead = without_what_both_gave(changed(ahead, side, ahead[side] + (event[-1],)))
            word = known[event[1:]] if event[0] == "test" else WORDS[event[0]]
            states = changed(states, side, next_state(self.nodes[side], states[side], word, 0))
            side = side_to_go(states, ahead)
        return (states, ahead)

    def lasting(self, states, facts, names):
        """The facts whose tests can come again in a program, with the new spots that their items have there."""
        found = []
        for side in (0, 1):
            homes = {item: number for number, thing in things_of(states[side]) for item in thing[1]} if facts else {}
            for name, thing, word in facts:
                if self.can_come(name, thing, side, homes):
                    found.append((name, renamed_thing(thing, names[side]), word))
        return tuple(sorted(set(found)))

    def can_come(self, name, thing, side, homes):
        """Whether all items of a test's thing are in one program, each ahead of such a test."""
        shape, items = thing
        test = (name, begin_of(shape))
        return all([item in homes and test in self.later[side][homes[item]] for item in items])

    def parting_steps(self):
        """The list of tuples (note, former) to where both are parted, by as short a list as there is, or None."""
        ways = {}
        entries = [(self.start(), None)]
        while entries:
            longer = []
            while entries:
                place, way = entries.pop()
                if place in ways:
                    continue
                ways[place] = way
                if self.parted(place):
                    return steps_to(ways, place)
                for note, after, former in self.behind(place):
                    entry = (after, (place, note, former))
                    if note == (LONGER,):
                        longer.append(entry)
                    else:
                        entries.append(entry)
            entries = longer
        return None


def many_items(states, ahead):
    """How many items there are, each one known by its spot."""
    things = [thing for state in states for _, thing in things_of(state)]
    things.extend([thing for some in ahead for thing in some])
    return 1 + max([spot for _, spots in things for spot in spots], default=-1)


def side_to_go(states, ahead):
    """The side of the program that goes on next, or None if both wait for an item or have ended."""
    # Who has given less goes first, so that things that both give are soon forgotten.
    order = (1, 0) if ahead[0] else (0, 1)
    for side in order:
        if states[side][0][0] in WITH_THING:
            return side
    return None


def begin_of(shape):
    """The shape of a thing up to its first item; it has the same wherever it comes to one stage."""
    return shape[:shape.index(ITEM)]


def begin_behind(node, begin):
    """How the shapes of things begin behind a node that has no other program, from how they did before."""
    if node.kind == "map":
        return node.detail + "(" + begin
    if node.kind == "lots":
        return "[" + begin
    return begin[1:] if node.kind == "flat" else begin


def tests_from(nodes):
    """For each node, the tests that its things can still have: tuples (name, begin of the shape)."""
    tests = []
    begin = ""
    for node in nodes:
        tests.append((node.detail, begin) if node.kind in ("keep", "while", "after") else None)
        begin = begin_behind(node, begin)
    later = {number: [test for test in tests[number:] if test is not None] for number in range(len(nodes))}
    # Who takes the things has given them: they come to no test.
    later[TAKER] = []
    return later


def steps_to(ways, place):
    """The steps to a place, if ways has for each one the place ahead of it, the note and the former spots."""
    steps = []
    while ways[place] is not None:
        place, note, former = ways[place]
        steps.append((note, former))
    steps.reverse()
    return steps
