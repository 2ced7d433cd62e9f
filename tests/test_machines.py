"""Points [3] to [5]: things, replies, and the states of a program that runs."""

import unittest

from pulledonce import machines, things
from pulledonce.programs import Program
from tests.reference import REPLIES


def thing(shape, *items):
    return (shape, items)


class StateTest(unittest.TestCase):
    def test_a_state_stays_as_it_was(self):
        nodes = machines.nodes_of(Program("a", [("lots", 2), ("zip", Program("b")), ("gather", 2)]))
        state = machines.first_state(nodes)
        for number, word in enumerate(["item", "item", "item", "item", "item", "item", "more", "none", "more"]):
            before = repr(state)
            behind = [machines.next_state(nodes, state, word, number) for _ in range(2)]
            self.assertEqual(behind[0], behind[1])
            self.assertEqual(repr(state), before)
            state = behind[0]
        self.assertEqual(state[0], ("end",))

    def test_states_are_keys(self):
        nodes = machines.nodes_of(Program("a", [("gather", 2)]))
        first = machines.first_state(nodes)
        after = machines.next_state(nodes, first, "item", 0)
        self.assertEqual({first: 1, after: 2}[machines.next_state(nodes, first, "item", 0)], 2)

    def test_the_item_is_the_one_that_the_caller_tells(self):
        nodes = machines.nodes_of(Program("a", [("lots", 2)]))
        state = machines.next_state(nodes, machines.first_state(nodes), "item", "x")
        state = machines.next_state(nodes, state, "item", 7)
        self.assertEqual(state[0], ("give", thing("[*, *]", "x", 7)))

    def test_what_is_held(self):
        nodes = machines.nodes_of(Program("a", [("gather", 2), ("zip", Program("b", [("lots", 2)]))]))
        state = machines.first_state(nodes)
        for item in ("a0", "a1", "b0"):
            state = machines.next_state(nodes, state, "item", item)
        self.assertEqual(state[0], ("ask", "b"))
        held = [some for some in state[3] if some]
        self.assertEqual(held, [(thing("*", "a1"),), (thing("*", "b0"),), (thing("*", "a0"),)])
        for word in ["none", "more", "none"]:
            state = machines.next_state(nodes, state, word, "")
        self.assertEqual((state[0], [some for some in state[3] if some]), (("end",), []))


class ThingsTest(unittest.TestCase):
    def test_texts(self):
        self.assertEqual(things.item_text("a", 12), "a12")
        item = things.item_thing("a0")
        row = things.row_thing([item, things.item_thing("b10")])
        self.assertEqual(things.thing_text(item), "a0")
        self.assertEqual(things.thing_text(row), "[a0, b10]")
        self.assertEqual(things.thing_text(things.result_thing("f", item)), "f(a0)")
        self.assertEqual(things.thing_text(things.result_thing("f", row)), "f([a0, b10])")
        self.assertEqual(things.thing_text(things.row_thing([item])), "[a0]")
        self.assertEqual(things.thing_text(things.row_thing([row, things.item_thing("c1"), row])),
                         "[[a0, b10], c1, [a0, b10]]")

    def test_rows_taken_apart(self):
        for inner in (
            [thing("*", "a0")], [thing("*", "a0"), thing("*", "b10")], [thing("[*, *]", "a0", "a1")],
            [thing("f([*, *])", "a0", "a1"), thing("[g(*), [*, *]]", "a2", "a3", "a4"), thing("*", "a5")],
            [thing("[[*]]", 0), thing("*", 1), thing("f(g([[*, *], *]))", 2, 3, 4)],
        ):
            self.assertEqual(things.things_in_row(things.row_thing(inner)), inner)

    def test_events(self):
        self.assertEqual(machines.event_text(("give", thing("[*]", "a0"))), ("give", "[a0]"))
        self.assertEqual(machines.event_text(("test", "p", thing("*", "a0"))), ("test", "p", "a0"))
        self.assertEqual(machines.event_text(("call", "f", thing("g(*)", "a0"))), ("call", "f", "g(a0)"))
        for event in [("ask", "a"), ("end",), ("failed",), ("closed",)]:
            self.assertEqual(machines.event_text(event), event)


class RepliesTest(unittest.TestCase):
    def test_replies(self):
        for event in [("ask", "a"), ("call", "f", "a0"), ("test", "f", "a0"), ("give", "a0"), ("end",), ("failed",),
                      ("closed",)]:
            replies = machines.replies_to(event, {})
            self.assertEqual(replies, REPLIES[event[0]])
            replies.append("more")
            self.assertEqual(machines.replies_to(event, {}), REPLIES[event[0]])

    def test_replies_that_bind(self):
        told = {}
        for event, word in [(("ask", "a"), "item"), (("ask", "b"), "none"), (("call", "f", "a0"), "done"),
                            (("test", "f", "a0"), "no"), (("give", "a0"), "more")]:
            machines.keep_reply(told, event, word)
        self.assertEqual(machines.replies_to(("ask", "a"), told), ["item", "none"])
        self.assertEqual(machines.replies_to(("ask", "b"), told), ["none"])
        self.assertEqual(machines.replies_to(("call", "f", "a0"), told), ["done"])
        self.assertEqual(machines.replies_to(("test", "f", "a0"), told), ["no"])
        self.assertEqual(machines.replies_to(("test", "f", "a1"), told), ["yes", "no", "fails"])
        self.assertEqual(machines.replies_to(("test", "g", "a0"), told), ["yes", "no", "fails"])
        self.assertEqual(machines.replies_to(("give", "a0"), told), ["more", "close"])


if __name__ == "__main__":
    unittest.main()
