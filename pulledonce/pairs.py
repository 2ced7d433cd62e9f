"""Two programs side by side, and the replies behind which they differ.

A pair is a tuple (one, two, links): the number of a state of each program, and for each
spot of the first one the spot that the same item has in the second one, or NOWHERE.
"""

from pulledonce.machines import LAST_WORDS
from pulledonce.search import shortest_row

NOWHERE = -1


class Pairs:
    """Pairs of the states of two programs.

    apart has the sources of which one program has had more items than the other one. Their
    new items are taken to be nowhere in the second program. This tells right whether runs
    ever differ: if an item of such a source, new to one run, could still show, then the
    other run, which has had it earlier, could also show it if "none" were told instead of
    it, and only the other run could.
    """

    def __init__(self, first, second, apart):
        self.first = first
        self.second = second
        self.apart = apart
        self.comparable = not apart and first.program == second.program

    def differ(self, pair):
        """Whether other events show, or other words can be replied."""
        one, two, links = pair
        left = self.first.rows[one]
        right = self.second.rows[two]
        if left.shown != right.shown or left.words != right.words:
            return True
        return any([links[spot] != spot for spot in range(left.shown_size())])

    def equal(self, pair):
        """Whether both are one program in one state, so that they can not differ from here on."""
        one, two, links = pair
        left = self.first.rows[one]
        right = self.second.rows[two]
        return self.comparable and left.key == right.key and links == tuple(range(left.size))

    def behind(self, pair):
        """The list of tuples (word, pair) of those behind a pair that does not differ."""
        if self.equal(pair):
            return []
        words = self.first.rows[pair[0]].words
        return [(word, self.pair_behind(pair, word)) for word in words if word not in LAST_WORDS]

    def pair_behind(self, pair, word):
        one, two, links = pair
        after_one, from_one = self.first.move(one, word)
        after_two, from_two = self.second.move(two, word)
        spots = {former: spot for spot, former in enumerate(from_two)}
        partners = links + (self.partner_of_new_item(one, two),)
        return (after_one, after_two, tuple([spots.get(partners[former], NOWHERE) for former in from_one]))

    def partner_of_new_item(self, one, two):
        """The spot in the second program of what an "item" brings to the first one."""
        source = self.first.rows[one].shown[-1]
        return NOWHERE if source in self.apart else self.second.rows[two].size


def parting_row(first, second, pair, apart):
    """A shortest row of replies behind which two programs differ, from a pair on, or None.

    first and second are the States of the programs. If apart is not empty, only whether
    there is such a row is right.
    """
    pairs = Pairs(first, second, apart)
    return shortest_row(pair, pairs.differ, pairs.behind)
