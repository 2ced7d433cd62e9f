"""Walks: runs of a program that are shown event by event."""

from pulledonce.errors import BadReply
from pulledonce.machines import event_text, events_of_run, first_state, keep_reply, next_state, nodes_of, replies_to
from pulledonce.pairs import NOWHERE, parting_row
from pulledonce.states import States
from pulledonce.things import item_text


class Walk:
    """A run of a program that has shown its first event."""

    def __init__(self, program):
        self._program = program
        self._nodes = nodes_of(program)
        self._state = first_state(self._nodes)
        self._numbers = {source: 0 for source in program.sources}
        self._told = {}
        self._events = [event_text(self._state[0])]

    @property
    def event(self):
        """The event that shows now."""
        return self._events[-1]

    @property
    def events(self):
        """The list of all events so far; the one that shows now is the last."""
        return list(self._events)

    @property
    def replies(self):
        """The list of what can be replied now."""
        return replies_to(self._state[0], self._told)

    @property
    def given(self):
        """The list of the things given so far."""
        return [event[-1] for event in self._events if event[0] == "give"]

    def reply(self, word):
        """Replies, and the next event shows."""
        if word not in self.replies:
            raise BadReply(word)
        keep_reply(self._told, self._state[0], word)
        item = self._next_item() if word == "item" else ""
        self._state = next_state(self._nodes, self._state, word, item)
        self._events.append(event_text(self._state[0]))

    def _next_item(self):
        """The text of the item that the source gives now."""
        source = self._state[0][-1]
        number = self._numbers[source]
        self._numbers[source] = number + 1
        return item_text(source, number)

    def fork(self):
        """A new walk that stands alike and goes its own way."""
        twin = Walk(self._program)
        twin._state = self._state
        twin._numbers = {source: self._numbers[source] for source in self._numbers}
        twin._told = {event: self._told[event] for event in self._told}
        twin._events = list(self._events)
        return twin

    def like(self, other):
        """Whether another walk shows the same event and has the same replies, now and ever after."""
        first = States(self._program)
        second = States(other._program)
        one, items = first.number_of(self._state, self._facts())
        two, other_items = second.number_of(other._state, other._facts())
        spots = {item: spot for spot, item in enumerate(other_items)}
        links = tuple([spots.get(item, NOWHERE) for item in items])
        return parting_row(first, second, (one, two, links), self._sources_apart(other)) is None

    def _facts(self):
        """The tests so far with the reply "yes"."""
        return tuple([event for event in self._told if self._told[event] == "yes"])

    def _sources_apart(self, other):
        """The sources of which both walks have had different numbers of items."""
        return [
            source for source in self._numbers
            if source in other._numbers and self._numbers[source] != other._numbers[source]
        ]


def run(program, replies):
    """The list of the events: the first one, and the one behind each reply of a list."""
    return events_of_run(Walk(program), replies)
