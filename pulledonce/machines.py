"""What the files of the package share: events, replies, and programs that run.

A program that runs is a list of nodes, which tells what asks what, and a state, a plain
tuple that never changes and may be the key of a dict:

    (event, place, counts, held)

The event is the one that shows, with a thing as its last entry instead of a text; place
is the number of the node that waits for the reply (TAKER if none does), counts has an
integer for each node and held a tuple of the things that the node holds. What an integer
in counts means: of a take, how many things it may still give; of a skip, how many are
still to go; of an after, 1 behind the yes; of a lots or gather, 1 when the stage before
has ended; else 0.

Between two events steps are carried out: (move, number, thing). The node with that
number is asked ("ask"), or what it asked gives it a thing ("give") or ends ("end").
"""

from pulledonce.errors import BadReplies
from pulledonce.things import item_thing, result_thing, row_thing, thing_text, things_in_row

# The number of whoever takes the things of a program.
TAKER = -1

# The kinds of the events that end with a thing.
WITH_THING = ("call", "test", "give")

REPLIES = {
    "ask": ("item", "none"),
    "call": ("done", "fails"),
    "test": ("yes", "no", "fails"),
    "give": ("more", "close"),
}

# These end all runs alike.
LAST_WORDS = ("close", "fails")


def event_text(event):
    """An event as a run shows it, with the text of its thing."""
    if event[0] not in WITH_THING:
        return event
    return event[:-1] + (thing_text(event[-1]),)


def replies_to(event, told):
    """The list of what can be replied to an event, if told has the replies so far that bind."""
    if event in told:
        return [told[event]]
    return list(REPLIES.get(event[0], ()))


def keep_reply(told, event, word):
    """Functions are pure and sources stay at their end, so such a reply binds the next ones."""
    if event[0] in ("call", "test") or word == "none":
        told[event] = word


def events_of_run(walk, replies):
    """The list of the events of a run that has shown its first one, when it has had each reply of a list."""
    for position, word in enumerate(replies):
        if word not in walk.replies:
            raise BadReplies(position)
        walk.reply(word)
    return walk.events


class Node:
    """A source ("from") or a stage, and the numbers of the nodes that it asks and of its asker.

    Only a zip asks another node than the one before; a source asks none.
    """

    def __init__(self, kind, detail, before, other):
        self.kind = kind
        self.detail = detail
        self.before = before
        self.other = other
        self.asker = TAKER


def nodes_of(program):
    """The nodes of a program and of its zips' programs; the last one is asked by the taker."""
    return nodes_of_stages(program.source, program.stages)


def nodes_of_stages(source, stages):
    """The nodes of a program with any stages, also more, or with greater numbers, than a Program can have."""
    nodes = []
    add_stages(nodes, source, stages)
    return nodes


def add_stages(nodes, source, stages):
    nodes.append(Node("from", source, TAKER, TAKER))
    for stage in stages:
        add_stage(nodes, stage)


def add_stage(nodes, stage):
    """Puts a stage behind the last node, and the nodes of a zip's program between both."""
    asked = [len(nodes) - 1]
    if stage[0] == "zip":
        add_stages(nodes, stage[1].source, stage[1].stages)
        asked.append(len(nodes) - 1)
    for node in [nodes[number] for number in asked]:
        node.asker = len(nodes)
    nodes.append(Node(stage[0], stage[-1], asked[0], asked[-1]))


class Run:
    """A program on its way from one event to the next."""

    def __init__(self, nodes, counts, held):
        self.nodes = nodes
        self.counts = list(counts)
        self.held = list(held)
        self.shown = ()
        self.place = TAKER


def first_state(nodes):
    """The state of a program that has been asked for the first time."""
    counts = [node.detail if node.kind in ("take", "skip") else 0 for node in nodes]
    run = Run(nodes, counts, [()] * len(nodes))
    return state_behind(run, ("ask", len(nodes) - 1, ()))


def next_state(nodes, state, word, item):
    """The state behind a reply that the event of the state has; the item is what an "item" brings."""
    if word == "item":
        return state_behind_item(nodes, state, item)
    event, place, counts, held = state
    run = Run(nodes, counts, held)
    return state_behind(run, step_behind_reply(run, event, place, word))


def state_behind_item(nodes, state, item):
    """The state behind an item that the node that waits gives on.

    The node may be a function, too, for whom all that functions give are items.
    """
    _, place, counts, held = state
    return state_behind(Run(nodes, counts, held), giving(nodes[place], item_thing(item)))


def state_behind(run, step):
    # A loop over steps, since calls of one node by the next would nest ever deeper.
    while step is not None:
        step = step_behind(run, step)
    return (run.shown, run.place, tuple(run.counts), tuple(run.held))


def showing(run, place, event):
    """An event shows, and no step is behind it."""
    run.place = place
    run.shown = event
    return None


def asking(number):
    return ("ask", number, ())


def giving(node, thing):
    return ("give", node.asker, thing)


def ending(node):
    return ("end", node.asker, ())


def step_behind_reply(run, event, place, word):
    """The step that another reply than "item" brings, or None if an event shows at once."""
    if word == "more":
        return asking(len(run.nodes) - 1)
    if word in ("close", "fails"):
        return showing(run, TAKER, ("closed",) if word == "close" else ("failed",))
    node = run.nodes[place]
    if word == "none":
        return ending(node)
    if word == "done":
        return giving(node, result_thing(node.detail, event[-1]))
    if word == "yes":
        return step_behind_yes(run, place, event[-1])
    return ending(node) if node.kind == "while" else asking(node.before)


def step_behind_yes(run, place, thing):
    if run.nodes[place].kind == "after":
        run.counts[place] = 1
    return giving(run.nodes[place], thing)


def step_behind(run, step):
    """The step that a step brings, or None if an event shows."""
    move, number, thing = step
    if number == TAKER:
        return showing(run, TAKER, ("give", thing) if move == "give" else ("end",))
    if move == "ask":
        return step_when_asked(run, number)
    if move == "end":
        return step_when_ended(run, number)
    action = WHEN_GIVEN[run.nodes[number].kind]
    return action(run, number, thing)


def step_when_asked(run, number):
    node = run.nodes[number]
    if node.kind == "from":
        return showing(run, number, ("ask", node.detail))
    if node.kind == "take" and run.counts[number] == 0:
        return ending(node)
    if node.kind == "lots" and run.counts[number] == 1:
        return ending(node)
    if node.kind == "flat" and run.held[number]:
        return giving_first(run, number)
    if node.kind == "gather":
        return step_of_gather(run, number)
    return asking(node.before)


def step_when_ended(run, number):
    """What a node does when one that it asked has ended."""
    node = run.nodes[number]
    if node.kind in ("lots", "gather"):
        run.counts[number] = 1
    if node.kind == "gather":
        return step_of_gather(run, number)
    if node.kind == "lots" and run.held[number]:
        return giving_row(run, number)
    # Only a zip can hold something here: a thing of its own side, which is gone now.
    run.held[number] = ()
    return ending(node)


def giving_first(run, number):
    held = run.held[number]
    run.held[number] = held[1:]
    return giving(run.nodes[number], held[0])


def giving_row(run, number):
    held = run.held[number]
    run.held[number] = ()
    return giving(run.nodes[number], row_thing(held))


def step_of_gather(run, number):
    node = run.nodes[number]
    held = run.held[number]
    if len(held) < node.detail and run.counts[number] == 0:
        return asking(node.before)
    return giving_first(run, number) if held else ending(node)


def map_given(run, number, thing):
    return showing(run, number, ("call", run.nodes[number].detail, thing))


def keep_given(run, number, thing):
    return showing(run, number, ("test", run.nodes[number].detail, thing))


def after_given(run, number, thing):
    if run.counts[number] == 1:
        return giving(run.nodes[number], thing)
    return keep_given(run, number, thing)


def take_given(run, number, thing):
    run.counts[number] -= 1
    return giving(run.nodes[number], thing)


def skip_given(run, number, thing):
    if run.counts[number] == 0:
        return giving(run.nodes[number], thing)
    run.counts[number] -= 1
    return asking(run.nodes[number].before)


def lots_given(run, number, thing):
    run.held[number] = run.held[number] + (thing,)
    if len(run.held[number]) == run.nodes[number].detail:
        return giving_row(run, number)
    return asking(run.nodes[number].before)


def flat_given(run, number, thing):
    run.held[number] = tuple(things_in_row(thing))
    return giving_first(run, number)


def gather_given(run, number, thing):
    run.held[number] = run.held[number] + (thing,)
    return step_of_gather(run, number)


def zip_given(run, number, thing):
    run.held[number] = run.held[number] + (thing,)
    if len(run.held[number]) == 2:
        return giving_row(run, number)
    return asking(run.nodes[number].other)


WHEN_GIVEN = {
    "map": map_given,
    "keep": keep_given,
    "while": keep_given,
    "after": after_given,
    "take": take_given,
    "skip": skip_given,
    "lots": lots_given,
    "flat": flat_given,
    "gather": gather_given,
    "zip": zip_given,
}
