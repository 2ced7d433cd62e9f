"""States whatever the numbers of items: they are finitely many, and few."""

import unittest

from pulledonce.programs import Program
from pulledonce.search import shortest_row
from pulledonce.states import States


def all_states(stages):
    states = States(Program("a", stages))
    number = 0
    while number < len(states.rows):
        for word in states.rows[number].words:
            states.move(number, word)
        number += 1
    return states.rows


class StatesTest(unittest.TestCase):
    def test_how_many(self):
        # One for each way in which a run can be over, and the others.
        self.assertEqual(len(all_states([])), 2 + 2)
        self.assertEqual(len(all_states([("map", "f")])), 3 + 3)
        self.assertEqual(len(all_states([("keep", "p")])), 3 + 3)
        self.assertEqual(len(all_states([("take", 2)])), 2 + 4)
        self.assertEqual(len(all_states([("take", 2), ("take", 4)])), 2 + 4)

    def test_replies_that_can_not_bind_are_left_out(self):
        for name, binds in [("p", True), ("q", False)]:
            facts = [state.facts for state in all_states([("after", "p"), ("gather", 3), ("keep", name)]) if state.facts]
            self.assertEqual(facts != [], binds)
            facts = [state.facts for state in all_states([("keep", name), ("keep", "p"), ("gather", 3)]) if state.facts]
            self.assertEqual(facts, [])

    def test_long_runs_come_back(self):
        states = States(Program("a", [("keep", "p"), ("lots", 2), ("zip", Program("b", [("gather", 2)]))]))
        number = 0
        for word in ["item", "no"] * 50 + ["item", "yes"] + ["item", "no"] * 50:
            number, _ = states.move(number, word)
        self.assertLess(len(states.rows), 10)

    def test_where_the_items_of_a_state_come_from(self):
        states = States(Program("a", [("gather", 2), ("lots", 2)]))
        rows = []
        number = 0
        for word in ["item", "item", "item", "more"]:
            number, spots = states.move(number, word)
            rows.append((states.rows[number].shown, spots))
        self.assertEqual(rows, [(("ask", "a"), (0,)), (("ask", "a"), (1, 0)), (("give", "[*, *]"), (1, 0, 2)),
                                (("ask", "a"), (2,))])


class SearchTest(unittest.TestCase):
    def test_a_shortest_way(self):
        ways = {0: [("a", 1), ("b", 2)], 1: [("c", 0), ("d", 3)], 2: [("e", 4)], 3: [("f", 4)], 4: []}
        self.assertEqual(shortest_row(0, lambda place: place == 4, lambda place: ways[place]), ["b", "e"])
        self.assertEqual(shortest_row(0, lambda place: place == 0, lambda place: ways[place]), [])
        self.assertIsNone(shortest_row(0, lambda place: place == 5, lambda place: ways[place]))


if __name__ == "__main__":
    unittest.main()
