"""Whether an event can show, and a shortest row of replies behind which it does."""

from pulledonce.machines import WITH_THING
from pulledonce.search import shortest_row
from pulledonce.states import States
from pulledonce.things import ITEM, item_text

# The lengths of the events of each kind.
LENGTHS = {"ask": 2, "call": 3, "test": 3, "give": 2, "end": 1, "failed": 1, "closed": 1}

# The index of an item that the event does not have.
NOT_WANTED = -1

# The document leaves items with a number above 5 open; numbers with more digits are not looked for.
MOST_DIGITS = 3


def has_form_of_event(value):
    """Whether any value has the form of an event, be its texts what they may."""
    return (
        isinstance(value, tuple)
        and 1 <= len(value) <= 3
        and all([isinstance(entry, str) for entry in value])
        and LENGTHS.get(value[0]) == len(value)
    )


def parts_of_thing(text):
    """The shape of a thing, and the list of the texts of its items: each a sign with digits behind it."""
    shape = ""
    items = []
    at = 0
    while at < len(text):
        end = at + 1
        while end < len(text) and text[end].isdigit():
            end += 1
        shape = shape + (text[at] if end == at + 1 else ITEM)
        if end > at + 1:
            items.append(text[at:end])
        at = end
    return (shape, items)


def number_of_item(text):
    """The number of an item, or None if a text is no item or none that is looked for."""
    digits = text[1:]
    if len(digits) > MOST_DIGITS or text != item_text(text[0], int(digits)):
        return None
    return int(digits)


def can_be_together(items, sources):
    """Whether texts are different items of some sources: no thing has an item twice."""
    right = [item[0] in sources and number_of_item(item) is not None for item in items]
    return all(right) and len(set(items)) == len(items)


class Hunt:
    """The places through which a program comes to an event.

    A place is a tuple (number, counts, indexes): the number of a state; for each source how
    many items it has given, up to the last one that the event has; for each spot of the
    state the index of its item among the items of the event, or NOT_WANTED.
    """

    def __init__(self, program, target, wanted):
        self.states = States(program)
        self.begins = program.sources
        self.target = target
        self.wanted = wanted
        self.limits = [self.limit_of(source) for source in self.begins]

    def limit_of(self, source):
        """How many items of a source are counted."""
        numbers = [number_of_item(item) for item in self.wanted if item[0] == source]
        return max(numbers, default=-1) + 1

    def first_place(self):
        return (0, tuple([0] * len(self.begins)), ())

    def found(self, place):
        """Whether the event shows."""
        number, _, indexes = place
        state = self.states.rows[number]
        if state.shown != self.target:
            return False
        return all([indexes[spot] == spot for spot in range(state.shown_size())])

    def behind(self, place):
        """The list of tuples (word, place), without places behind which the event can not show."""
        places = []
        for word in self.states.rows[place[0]].words:
            after = self.place_behind(place, word)
            if after is not None:
                places.append((word, after))
        return places

    def place_behind(self, place, word):
        """The place behind a reply, or None if an item of the event is gone there."""
        number, counts, indexes = place
        index = NOT_WANTED
        if word == "item":
            at = self.begins.index(self.states.rows[number].shown[-1])
            index = self.index_of_item(item_text(self.begins[at], counts[at]))
            counts = counts[:at] + (min(counts[at] + 1, self.limits[at]),) + counts[at + 1:]
        indexes = indexes + (index,)
        after, spots = self.states.move(number, word)
        left = tuple([indexes[spot] for spot in spots])
        return (after, counts, left) if many_wanted(left) == many_wanted(indexes) else None

    def index_of_item(self, item):
        return self.wanted.index(item) if item in self.wanted else NOT_WANTED


def many_wanted(indexes):
    return len(indexes) - indexes.count(NOT_WANTED)


def way_to(program, event):
    """A shortest row of replies behind which an event, any value, shows first, or None if it never does."""
    if not has_form_of_event(event):
        return None
    target = event
    items = []
    if event[0] in WITH_THING:
        shape, items = parts_of_thing(event[-1])
        target = event[:-1] + (shape,)
    if not can_be_together(items, program.sources):
        return None
    hunt = Hunt(program, target, items)
    return shortest_row(hunt.first_place(), hunt.found, hunt.behind)


def reaches(program, event):
    """Whether an event, any value, can show."""
    return way_to(program, event) is not None
