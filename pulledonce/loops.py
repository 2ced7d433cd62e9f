"""Loops: one plain list of states with registers, which shows events like a program."""

from pulledonce.errors import BadLoop
from pulledonce.machines import LAST_WORDS, REPLIES, event_text, events_of_run, keep_reply, replies_to
from pulledonce.programs import SOURCES, is_name, is_position
from pulledonce.things import item_text, item_thing, result_thing, row_thing

MANY_REGISTERS = 20
MOST_STATES = 400
MOST_NESTED = 6

# What stands behind the kind in each kind of state.
PARTS = {
    "ask": ("source", "target", "way", "way"),
    "call": ("name", "shape", "target", "way"),
    "test": ("name", "shape", "way", "way"),
    "give": ("shape", "way"),
    "end": (),
}

# Where a state has its shape, by its kind.
SHAPE_AT = {"call": 2, "test": 2, "give": 1}

# Where a state has the way behind a reply, and the register into which something comes with it.
WAY_AT = {"item": 3, "none": 4, "done": 4, "yes": 3, "no": 4, "more": 2}
TARGET_AT = {"item": 2, "done": 3}


def is_target(value):
    """Whether any value is a register."""
    return is_position(value, MANY_REGISTERS)


def is_shape(value, nested):
    """Whether any value is a shape nested at most so deep."""
    if not isinstance(value, tuple):
        return is_target(value)
    return nested > 0 and len(value) > 0 and all([is_shape(entry, nested - 1) for entry in value])


def is_move(value):
    return isinstance(value, tuple) and len(value) == 2 and is_target(value[0]) and is_target(value[1])


def is_way(value, many):
    """Whether any value is a way to one of so many states."""
    if not isinstance(value, tuple) or len(value) != 2 or not isinstance(value[1], tuple):
        return False
    state, moves = value
    if not is_position(state, many) or not all([is_move(move) for move in moves]):
        return False
    return len(set([move[0] for move in moves])) == len(moves)


def is_part(kind, value, many):
    if kind == "source":
        return isinstance(value, str) and value in SOURCES
    if kind == "name":
        return is_name(value)
    if kind == "target":
        return is_target(value)
    if kind == "shape":
        return is_shape(value, MOST_NESTED)
    return is_way(value, many)


def is_state(value, many):
    """Whether any value has the form of a state, among so many."""
    if not isinstance(value, tuple) or len(value) == 0 or not isinstance(value[0], str) or value[0] not in PARTS:
        return False
    parts = PARTS[value[0]]
    if len(value) != len(parts) + 1:
        return False
    return all([is_part(kind, part, many) for kind, part in zip(parts, value[1:])])


def shown_registers(state):
    """The registers in the shape of a state."""
    return registers_in(state[SHAPE_AT[state[0]]]) if state[0] in SHAPE_AT else []


def registers_in(shape):
    if not isinstance(shape, tuple):
        return [shape]
    return [inner for entry in shape for inner in registers_in(entry)]


def words_of(state):
    """The replies to a state behind which a loop goes on."""
    return [word for word in REPLIES.get(state[0], ()) if word not in LAST_WORDS]


def way_behind(state, word):
    return state[WAY_AT[word]]


def filled_by(state, word):
    """The list of the register into which something comes with a reply, or of none."""
    return [state[TARGET_AT[word]]] if word in TARGET_AT else []


def reads_what_is_filled(loop):
    """Whether on all ways from state 0 each register that is read has been filled."""
    filled = {0: []}
    todo = [0]
    while todo:
        number = todo.pop()
        state = loop[number]
        if not has_all(filled[number], shown_registers(state)):
            return False
        for word in words_of(state):
            after, moves = way_behind(state, word)
            full = filled[number] + filled_by(state, word)
            if not has_all(full, [second for _, second in moves]):
                return False
            full = sorted(set(full + [first for first, _ in moves]))
            if after in filled:
                full = [target for target in filled[after] if target in full]
            if after not in filled or len(full) < len(filled[after]):
                filled[after] = full
                todo.append(after)
    return True


def has_all(registers, others):
    return all([other in registers for other in others])


def is_loop(value):
    """Whether any value is a loop."""
    if not isinstance(value, list) or not 1 <= len(value) <= MOST_STATES:
        return False
    return all([is_state(state, len(value)) for state in value]) and reads_what_is_filled(value)


def thing_of_shape(shape, things):
    """What a shape means, if things has what is in each register."""
    if not isinstance(shape, tuple):
        return things[shape]
    return row_thing([thing_of_shape(entry, things) for entry in shape])


def event_of(state, things):
    """The event of a state, with a thing as its last entry instead of a text."""
    if state[0] not in SHAPE_AT:
        return state[:2] if state[0] == "ask" else state
    at = SHAPE_AT[state[0]]
    return state[:at] + (thing_of_shape(state[at], things),)


def things_behind(state, word, event, item, things):
    """What is in each register at the end of the way behind a reply; item is the thing that an "item" brings."""
    full = list(things)
    for target in filled_by(state, word):
        full[target] = item if word == "item" else result_thing(event[1], event[-1])
    moved = list(full)
    for first, second in way_behind(state, word)[1]:
        moved[first] = full[second]
    return moved


class LoopRun:
    """A run of a loop that has shown its first event."""

    def __init__(self, loop):
        self._loop = list(loop)
        self._at = 0
        self._things = [None] * MANY_REGISTERS
        self._numbers = {source: 0 for source in SOURCES}
        self._told = {}
        self._shown = event_of(loop[0], self._things)
        self._events = [event_text(self._shown)]

    @property
    def events(self):
        """The list of all events so far; the one that shows now is the last."""
        return list(self._events)

    @property
    def replies(self):
        """The list of what can be replied now."""
        return replies_to(self._shown, self._told)

    def reply(self, word):
        """Replies, and the next event shows."""
        event = self._shown
        keep_reply(self._told, event, word)
        if word in WAY_AT:
            self._go(word)
        else:
            self._shown = ("closed",) if word == "close" else ("failed",)
        self._events.append(event_text(self._shown))

    def _go(self, word):
        state = self._loop[self._at]
        item = self._next_item() if word == "item" else None
        self._things = things_behind(state, word, self._shown, item, self._things)
        self._at = way_behind(state, word)[0]
        self._shown = event_of(self._loop[self._at], self._things)

    def _next_item(self):
        source = self._shown[-1]
        number = self._numbers[source]
        self._numbers[source] = number + 1
        return item_thing(item_text(source, number))


def run_loop(loop, replies):
    """The list of the events that a loop shows: the first one, and the one behind each reply."""
    if not is_loop(loop):
        raise BadLoop(loop)
    return events_of_run(LoopRun(loop), replies)
