"""Points [3] to [5]: things, replies, and machines beside the reference."""

import unittest
from itertools import product

from pulledonce import machines
from pulledonce.programs import Program
from tests.reference import REPLIES, reference_events
from tests.support import error_of

WIDE = [
    ("map", "f"), ("keep", "p"), ("while", "p"), ("after", "p"), ("take", 1), ("take", 2), ("skip", 1), ("skip", 2),
    ("lots", 1), ("lots", 2), ("flat",), ("gather", 1), ("gather", 2), ("zip", Program("b")),
    ("zip", Program("c", [("take", 1)])), ("zip", Program("d", [("lots", 2)])),
]
NARROW = [
    ("keep", "p"), ("take", 2), ("skip", 2), ("lots", 2), ("flat",), ("gather", 3), ("zip", Program("b", [("after", "p")])),
]
LONG = [
    [("lots", 4), ("flat",), ("skip", 4), ("lots", 3), ("gather", 2), ("flat",)],
    [("gather", 3), ("zip", Program("b", [("take", 2)])), ("flat",), ("map", "f")],
    [("lots", 2), ("zip", Program("b", [("zip", Program("c"))])), ("flat",), ("flat",), ("zip", Program("d")), ("flat",)],
    [("lots", 2), ("zip", Program("b", [("lots", 2)])), ("flat",), ("lots", 2), ("flat",), ("flat",)],
    [("keep", "p"), ("keep", "p"), ("lots", 2), ("keep", "p"), ("flat",), ("keep", "p")],
    [("map", "f"), ("map", "g"), ("lots", 2), ("map", "f")],
]


def replies_after(events, words):
    """The replies to the last event, as [5] tells it, from all events and replies so far."""
    event = events[-1]
    before = dict(zip(events, words))
    if event[0] in ("call", "test") and event in before:
        return [before[event]]
    return REPLIES[event[0]]


def programs(stages, most):
    for many in range(most + 1):
        for row in product(stages, repeat=many):
            if error_of(Program, "a", row) is None:
                yield Program("a", row)


class ReferenceTest(unittest.TestCase):
    def compare(self, program, most_replies):
        """Goes through all rows of replies up to a length."""
        nodes = machines.nodes_of(program)
        first = machines.first_state(nodes)
        open_runs = [([], [first[0]], first, {})]
        for _ in range(most_replies + 1):
            next_runs = []
            for words, events, state, told in open_runs:
                self.assertEqual(events, reference_events(program, words), (program.stages, words))
                replies = machines.replies_to(state[0], told)
                self.assertEqual(replies, replies_after(events, words))
                for word in replies:
                    told_then = dict(told)
                    machines.keep_reply(told_then, state[0], word)
                    after = machines.next_state(nodes, state, word)
                    next_runs.append((words + [word], events + [after[0]], after, told_then))
            open_runs = next_runs

    def test_short_programs(self):
        for program in programs(WIDE, 2):
            self.compare(program, 16)

    def test_programs_of_three_stages(self):
        for program in programs(NARROW, 3):
            self.compare(program, 15)

    def test_long_programs(self):
        for stages in LONG:
            self.compare(Program("a", stages), 30)


class StateTest(unittest.TestCase):
    def test_a_state_stays_as_it_was(self):
        nodes = machines.nodes_of(Program("a", [("lots", 2), ("zip", Program("b")), ("gather", 2)]))
        state = machines.first_state(nodes)
        for word in ["item", "item", "item", "item", "item", "item", "more", "none", "more"]:
            before = repr(state)
            behind = [machines.next_state(nodes, state, word) for _ in range(2)]
            self.assertEqual(behind[0], behind[1])
            self.assertEqual(repr(state), before)
            state = behind[0]
        self.assertEqual(state[0], ("end",))

    def test_states_are_keys(self):
        nodes = machines.nodes_of(Program("a", [("gather", 2)]))
        first = machines.first_state(nodes)
        after = machines.next_state(nodes, first, "item")
        self.assertEqual({first: 1, after: 2}[machines.next_state(nodes, first, "item")], 2)

    def test_what_is_held(self):
        nodes = machines.nodes_of(Program("a", [("gather", 2), ("zip", Program("b", [("lots", 2)]))]))
        state = machines.first_state(nodes)
        for word in ["item", "item", "item"]:
            state = machines.next_state(nodes, state, word)
        self.assertEqual(state[0], ("ask", "b"))
        self.assertEqual([things for things in state[3] if things], [("a1",), ("b0",), ("a0",)])
        for word in ["none", "more", "none"]:
            state = machines.next_state(nodes, state, word)
        self.assertEqual((state[0], [things for things in state[3] if things]), (("end",), []))


class ThingsTest(unittest.TestCase):
    def test_texts(self):
        self.assertEqual(machines.item_text("a", 12), "a12")
        self.assertEqual(machines.result_text("f", "[a0, b1]"), "f([a0, b1])")
        self.assertEqual(machines.row_text(("a0",)), "[a0]")
        self.assertEqual(machines.row_text(["a0", "[a1, a2]"]), "[a0, [a1, a2]]")

    def test_rows_taken_apart(self):
        for things in (["a0"], ["a0", "b10"], ["[a0, a1]"], ["f([a0, a1])", "[g(a2), [a3, a4]]", "a5"],
                       ["[[a0]]", "a", "f(g([[a1, a2], b3]))"]):
            self.assertEqual(machines.things_in_row(machines.row_text(things)), things)

    def test_replies(self):
        for event in [("ask", "a"), ("call", "f", "a0"), ("test", "f", "a0"), ("give", "a0"), ("end",), ("failed",),
                      ("closed",)]:
            replies = machines.replies_to(event, {})
            self.assertEqual(replies, REPLIES[event[0]])
            replies.append("more")
            self.assertEqual(machines.replies_to(event, {}), REPLIES[event[0]])

    def test_replies_that_bind(self):
        told = {}
        for event, word in [(("ask", "a"), "item"), (("ask", "b"), "none"), (("call", "f", "a0"), "done"),
                            (("test", "f", "a0"), "no"), (("give", "a0"), "more")]:
            machines.keep_reply(told, event, word)
        self.assertEqual(machines.replies_to(("ask", "a"), told), ["item", "none"])
        self.assertEqual(machines.replies_to(("ask", "b"), told), ["none"])
        self.assertEqual(machines.replies_to(("call", "f", "a0"), told), ["done"])
        self.assertEqual(machines.replies_to(("test", "f", "a0"), told), ["no"])
        self.assertEqual(machines.replies_to(("test", "f", "a1"), told), ["yes", "no", "fails"])
        self.assertEqual(machines.replies_to(("test", "g", "a0"), told), ["yes", "no", "fails"])
        self.assertEqual(machines.replies_to(("give", "a0"), told), ["more", "close"])


if __name__ == "__main__":
    unittest.main()
