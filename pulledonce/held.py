"""The most items that a program holds."""

from pulledonce.machines import LAST_WORDS
from pulledonce.search import shortest_row
from pulledonce.states import States


class Holder:
    """The states of a program, with all that its nodes hold."""

    def __init__(self, program):
        # What a node that is never asked again holds counts, too.
        self.states = States(program, with_what_is_over=True)

    def behind(self, number):
        """The list of tuples (word, number) of the states behind one that can hold more."""
        words = self.states.rows[number].words
        return [(word, self.states.move(number, word)[0]) for word in words if word not in LAST_WORDS]

    def many_held(self, number):
        return self.states.rows[number].size

    def most(self):
        """The most items that are held in any state."""
        number = 0
        while number < len(self.states.rows):
            # This adds the states that have not been met yet.
            self.behind(number)
            number += 1
        return max([self.many_held(number) for number in range(len(self.states.rows))])


def most_held(program):
    """A tuple (n, replies): the most items that a program holds, and a shortest row behind which it does."""
    holder = Holder(program)
    most = holder.most()
    return (most, shortest_row(0, lambda number: holder.many_held(number) == most, holder.behind))
