"""The items that programs give of lists, whatever they ask and call, and when."""

from pulledonce.errors import HasZip
from pulledonce.givers import LONGER, Givers
from pulledonce.links import renamed_thing
from pulledonce.machines import event_text, first_state, next_state, nodes_of, state_behind_item
from pulledonce.things import item_text, thing_text

# The replies to the other events, where no function fails and the list has no more items.
WORDS = {"ask": "none", "call": "done", "give": "more"}


def refuse_zips(program):
    """Raises HasZip with the position of the first zip, if there is one."""
    for position, stage in enumerate(program.stages):
        if stage[0] == "zip":
            raise HasZip(position)


def gives(program, length, no):
    """The list of the things that a program gives of a list, where the tests in no alone say no."""
    refuse_zips(program)
    denied = {(name, thing): True for name, thing in no}
    nodes = nodes_of(program)
    state = first_state(nodes)
    given = []
    asked = 0
    while state[0] != ("end",):
        event = event_text(state[0])
        if event[0] == "ask" and asked < length:
            state = state_behind_item(nodes, state, item_text(program.source, asked))
            asked += 1
            continue
        if event[0] == "give":
            given.append(event[-1])
        state = next_state(nodes, state, word_of_list(event, denied), "")
    return given


def word_of_list(event, denied):
    """The reply to an event at the end of a list, where the tests in denied alone say no."""
    if event[0] == "test":
        return "no" if event[1:] in denied else "yes"
    return WORDS[event[0]]


def items_parting(first, second):
    """A tuple (length, no), as short as possible, for which two programs give other lists, or None."""
    refuse_zips(first)
    refuse_zips(second)
    steps = Givers(first, second).parting_steps()
    if steps is None:
        return None
    sources = [first.source] if first.source == second.source else [first.source, second.source]
    length = 0
    items = []
    no = []
    for note, former in steps:
        if note == (LONGER,):
            items = items + [item_text(source, length) for source in sources]
            length += 1
        elif note and note[0] == "no":
            _, name, thing = note
            no.append((name, thing_text(renamed_thing(thing, items))))
        items = [items[spot] for spot in former]
    return (length, no)


def same_items(first, second):
    """Whether two programs give the same items of all lists, whatever the tests say."""
    return items_parting(first, second) is None
