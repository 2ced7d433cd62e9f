"""The items of two programs that are given one list, and their spots.

What a program has is its state and the things that it has given and the other one has not
yet. An item that both have is one for both only as long as it can show: behind lots whose
rows stay whole, it shows together with all others of its row alone. If the other program
can not show one of these, it is of no matter that it has the others, too: all items of
such a row are taken for other ones than those of the other program.
"""

from pulledonce.machines import WITH_THING

# How much deeper things get behind a node of a kind.
DEEPER = {"lots": 1, "flat": -1}


def things_of(state):
    """The things of a state by their homes: a list of tuples (number of the node, thing)."""
    event, place, _, held = state
    things = [(place, event[-1])] if event[0] in WITH_THING else []
    for number, some in enumerate(held):
        things.extend([(number, thing) for thing in some])
    return things


def renamed_thing(thing, names):
    shape, items = thing
    return (shape, tuple([names[item] for item in items]))


def renamed_things(things, names):
    return tuple([renamed_thing(thing, names) for thing in things])


def renamed_state(state, names):
    """A state with other names for its items."""
    event, place, counts, held = state
    if event[0] in WITH_THING:
        event = event[:-1] + (renamed_thing(event[-1], names),)
    return (event, place, counts, tuple([renamed_things(things, names) for things in held]))


def nodes_with_whole_rows(nodes):
    """The kinds of the nodes that give rows, if any, that stay whole, by their numbers."""
    return {number: node.kind for number, node in enumerate(nodes) if rows_stay_whole(nodes, number)}


def rows_stay_whole(nodes, number):
    """Whether no flat takes apart the rows that a node gives."""
    deep = 1
    for node in nodes[number + 1:]:
        if node.kind == "map":
            return True
        deep = deep + DEEPER.get(node.kind, 0)
        if deep == 0:
            return False
    return True


class Links:
    """What two programs have, and which items are one for both.

    whole has for each program the kinds of the nodes, by their numbers, whose rows stay whole.
    """

    def __init__(self, states, ahead, whole):
        self.states = states
        self.ahead = ahead
        self.whole = whole
        self.had = [self.items_of(side) for side in (0, 1)]
        self.apart = {}
        self.keep_apart()

    def items_of(self, side):
        """The items that a program has, as the keys of a dict, in the sequence in which they are met."""
        things = [thing for _, thing in things_of(self.states[side])] + list(self.ahead[side])
        return {item: True for _, items in things for item in items}

    def groups_of(self, side):
        """Lists of items of a program that show together alone."""
        groups = [items for _, items in self.ahead[side]]
        event, place, _, held = self.states[side]
        if event[0] in WITH_THING and place in self.whole[side]:
            groups.append(event[-1][1])
        for number, things in enumerate(held):
            rows = [items for _, items in things if number in self.whole[side]]
            if self.whole[side].get(number) == "lots":
                rows = [[item for items in rows for item in items]]
            groups.extend(rows)
        return groups

    def is_one(self, item):
        """Whether an item is one for both programs."""
        return item in self.had[0] and item in self.had[1] and item not in self.apart

    def keep_apart(self):
        """Marks the items that are no longer one for both, since others with which they show are not."""
        groups = self.groups_of(0) + self.groups_of(1)
        changes = True
        while changes:
            changes = False
            for group in groups:
                common = [item for item in group if self.is_one(item)]
                if 0 < len(common) < len(group):
                    changes = True
                    for item in common:
                        self.apart[item] = True

    def new_spots(self):
        """A tuple (names, former): for each program the dict of its items' spots, and who had each spot."""
        names = ({}, {})
        former = []
        for side in (0, 1):
            for item in self.had[side]:
                if item not in names[side]:
                    names[side][item] = len(former)
                    if self.is_one(item):
                        names[1 - side][item] = len(former)
                    former.append(item)
        return (names, tuple(former))
