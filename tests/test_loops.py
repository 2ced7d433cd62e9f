"""is_loop and run_loop of the interface."""

import unittest

from pulledonce.errors import BadLoop, BadReplies
from pulledonce.loops import is_loop, run_loop
from pulledonce.programs import Program
from pulledonce.walks import Walk
from tests.support import any_values, error_of, nested, same

WORDS = ["item", "none", "done", "fails", "yes", "no", "more", "close"]
LOOP = [("ask", "a", 0, (1, ()), (3, ())), ("call", "f", 0, 0, (2, ())), ("give", (0, 0), (0, ())), ("end",)]

# Each kind of state, with states 0 to 2 to go to; register 0 is filled ahead of it.
FIRST = ("ask", "a", 0, (1, ()), (2, ()))
KINDS = {
    "ask": ("ask", "b", 1, (0, ((2, 1),)), (2, ((3, 0), (4, 0)))),
    "call": ("call", "f", (0, (0,)), 1, (0, ((1, 0), (0, 1)))),
    "test": ("test", "p", (0,), (0, ()), (2, ((1, 0),))),
    "give": ("give", ((0, 0), 0), (0, ((5, 0),))),
    "end": ("end",),
}
SOURCES = ["a", "b", "c", "d"]
WRONG_SOURCES = ["", "e", "A", "ab", "a ", None, True, 0, ("a",), ["a"], {"a": 1}, Program("a")]
NAMES = ["f", "z", "abcdefgh", "ask", "end"]
WRONG_NAMES = ["", "abcdefghi", "F", "f1", "f ", "f\n", None, True, 1, ("f",), ["f"], {}, Program("a")]
WRONG_INTEGERS = [-1, 10 ** 59, -(10 ** 59), True, False, None, "0", "", "a", [0], {0: 0}, Program("a")]
WRONG_REGISTERS = WRONG_INTEGERS + [20, (0,), ()]
WRONG_SHAPES = WRONG_INTEGERS + [
    20, (), (0, ()), ((),), (0, 20), (0, True), ([0],), (0, None), [0, 0], ((0, (False,)),),
]
WRONG_MOVES = [
    [], [(1, 0)], None, 0, "", True, {}, {1: 0}, (1, 0), ((1,),), ((1, 0, 0),), ([1, 0],), ((1, 0), (1, 0)),
    ((1, 0), (2, 0), (1, 2)), ((20, 0),), ((1, 20),), ((-1, 0),), ((1, -1),), ((True, 0),), ((1, False),), ((1, (0,)),),
    (((1,), 0),), ((1, None),), ((1, "0"),), ((),), (0,), (None,), ((1, 0), None), ((1, 0), ()), "10",
]


def loop_with(state, second=None):
    return [FIRST, state, ("end",) if second is None else second]


def wrong_ways(many):
    states = [many, many + 1] + WRONG_INTEGERS + [(0,), ()]
    return (
        [(state, ()) for state in states] + [(0, moves) for moves in WRONG_MOVES]
        + [(), (0,), (0, (), ()), [0, ()], 0, None, True, "0", {0: ()}, ((), 0), ((0, ()),), Program("a")]
    )


class KindsTest(unittest.TestCase):
    def assert_loop(self, value, expected=True):
        self.assertIs(is_loop(value), expected, value)

    def test_values_of_every_kind(self):
        for value in any_values():
            self.assert_loop(value, False)
            self.assert_loop([value], False)
            self.assert_loop([("end",), value], False)
            self.assert_loop([(value,)], False)
            self.assert_loop([("end", value)], False)
            for kind in ("ask", "call", "test", "give", "end"):
                self.assert_loop([(kind, value)] + [("end",)], False)
        self.assert_loop(Walk(Program("a")), False)
        self.assert_loop(tuple(LOOP), False)
        self.assert_loop({at: state for at, state in enumerate(LOOP)}, False)
        self.assert_loop([list(state) for state in LOOP], False)

    def test_each_kind_of_state(self):
        for state in KINDS.values():
            self.assert_loop(loop_with(state))
        self.assert_loop([("end",)])
        self.assert_loop(LOOP)

    def test_the_number_of_entries(self):
        for state in KINDS.values():
            for many in range(len(state)):
                self.assert_loop(loop_with(state[:many]), False)
                self.assert_loop(loop_with(state[:many] + state[many + 1:]), False)
                self.assert_loop(loop_with(state[:many] + state[many:many + 1] + state[many:]), False)
            for more in (None, 0, (), (0, ())):
                self.assert_loop(loop_with(state + (more,)), False)
            self.assert_loop(loop_with(list(state)), False)

    def test_the_kind(self):
        for state in KINDS.values():
            for kind in any_values() + ["Ask", "ask ", "asks", "more", "keep"]:
                self.assert_loop(loop_with((kind,) + state[1:]), False)
            for kind in KINDS:
                if len(KINDS[kind]) != len(state):
                    self.assert_loop(loop_with((kind,) + state[1:]), False)

    def part(self, kind, at, right, wrong):
        for values, expected in ((right, True), (wrong, False)):
            for value in values:
                state = KINDS[kind][:at] + (value,) + KINDS[kind][at + 1:]
                self.assert_loop(loop_with(state), expected)
                if not expected:
                    # Also where no way comes to.
                    self.assert_loop(loop_with(("end",), state), False)

    def test_sources_and_names(self):
        self.part("ask", 1, SOURCES, WRONG_SOURCES)
        self.part("call", 1, NAMES, WRONG_NAMES)
        self.part("test", 1, NAMES, WRONG_NAMES)

    def test_registers(self):
        self.part("ask", 2, [1], WRONG_REGISTERS)
        self.part("call", 3, [1], WRONG_REGISTERS)
        for number in range(20):
            self.assert_loop([("ask", "a", number, (1, ()), (2, ())), ("give", number, (0, ())), ("end",)])
            moved = ("ask", "a", number, (1, ((19 - number, number),)), (2, ()))
            self.assert_loop([moved, ("give", 19 - number, (0, ())), ("end",)])

    def test_shapes(self):
        deep = [nested_shape(many) for many in range(9)]
        right = [0, (0,), (0, 0), (0, (0, (0, 0)), 0), tuple([0] * 30)] + deep[:7]
        for kind, at in (("call", 2), ("test", 2), ("give", 1)):
            self.part(kind, at, right, WRONG_SHAPES + deep[7:] + [(0, deep[6]), nested(lambda value: (value,), 30)])
            self.part(kind, at, [(deep[5], deep[2], deep[5])], [(deep[5], deep[2], deep[6]), (deep[5], (), 0)])

    def test_ways(self):
        right = [(state, ()) for state in (0, 1, 2)] + [
            (0, ((1, 0),)), (0, ((0, 0),)), (0, ((1, 0), (0, 0))), (0, tuple([(first, 0) for first in range(20)])),
        ]
        for kind, at in (("ask", 3), ("ask", 4), ("call", 4), ("test", 3), ("test", 4), ("give", 2)):
            self.part(kind, at, right, wrong_ways(3))

    def test_how_many_states(self):
        self.assert_loop([], False)
        for many in (1, 2, 399, 400, 401, 1000):
            self.assert_loop([("end",)] * many, many <= 400)
            self.assert_loop([("ask", "a", 0, (many - 1, ()), (0, ()))] * many, many <= 400)
        self.assert_loop([("ask", "a", 0, (399, ()), (399, ()))] + [("end",)] * 399)
        self.assert_loop([("ask", "a", 0, (399, ()), (399, ()))] + [("end",)] * 398, False)

    def test_arguments_by_name(self):
        self.assertIs(is_loop(value=LOOP), True)
        self.assertEqual(run_loop(replies=[], loop=LOOP), [("ask", "a")])


def nested_shape(many):
    shape = 0
    for _ in range(many):
        shape = (shape,)
    return shape


def asking(first, second=(2, ()), register=0):
    return ("ask", "a", register, first, second)


class EmptyRegistersTest(unittest.TestCase):
    def assert_filled(self, *loops):
        for loop in loops:
            self.assertIs(is_loop(loop), True, loop)

    def assert_empty(self, *loops):
        for loop in loops:
            self.assertIs(is_loop(loop), False, loop)

    def test_read_in_a_shape(self):
        end = ("end",)
        test = ("test", "p", ((0,), (1,)), (2, ()), (2, ()))
        for read in (("give", 1, (2, ())), ("call", "f", (0, 1), 1, (2, ())), test):
            self.assert_empty([asking((1, ())), read, end], [read, end, end])
            self.assert_filled([asking((1, ((1, 0),))), read, end], [asking((2, ())), read, end])
        self.assert_empty([("give", 0, (0, ()))], [("test", "p", 0, (0, ()), (0, ()))], [("call", "f", 0, 0, (0, ()))])

    def test_read_in_a_move(self):
        end = ("end",)
        self.assert_empty([asking((1, ((1, 2),))), end, end], [asking((1, ()), (2, ((1, 0),))), end, end])
        self.assert_empty([asking((1, ((1, 0), (2, 1)))), end, end], [asking((1, ((1, 1),))), end, end])
        self.assert_filled([asking((1, ((1, 0), (2, 0)))), end, end], [asking((1, ((0, 0),))), end, end])
        self.assert_empty([asking((1, ())), ("give", 0, (2, ((1, 0), (0, 1)))), end])
        self.assert_filled([asking((1, ((1, 0),))), ("give", 0, (2, ((1, 0), (0, 1)))), end])

    def test_what_comes_fills_ahead_of_the_moves(self):
        call = ("call", "f", 0, 3, (2, ((4, 3),)))
        first = asking((1, ()), (0, ()))
        self.assert_filled([first, call, ("give", (3, 4), (0, ()))])
        self.assert_empty([first, ("call", "f", 3, 3, (2, ())), ("end",)])
        self.assert_empty([first, call, ("give", (3, 5), (0, ()))])
        # With "none" nothing comes.
        self.assert_empty([("ask", "a", 0, (1, ()), (1, ())), ("give", 0, (0, ()))])
        self.assert_filled([("ask", "a", 0, (1, ()), (0, ())), ("give", 0, (0, ()))])

    def test_on_one_way_alone(self):
        give = ("give", 1, (0, ()))
        both = [asking((1, ()), (4, ())), ("test", "p", 0, (2, ((1, 0),)), (2, ((1, 0),))), give, give, ("end",)]
        self.assert_filled(both)
        for at in (3, 4):
            one = list(both)
            one[1] = both[1][:at] + ((2, ((2, 0),)),) + both[1][at + 1:]
            self.assert_empty(one)
            far = one[:4] + [("end",), asking((2, ((1, 0),)), (4, ()))]
            far[1] = both[1][:at] + ((5, ()),) + both[1][at + 1:]
            self.assert_filled(far)
            far[5] = asking((2, ((1, 0),)), (2, ()))
            self.assert_empty(far)

    def test_only_behind_a_round(self):
        # The first time the register is filled, then another way comes back without it.
        loop = [asking((1, ((1, 0),)), (4, ())), ("give", 1, (2, ())), asking((1, ()), (4, ()), 3), ("end",), ("end",)]
        self.assert_filled(loop)
        self.assert_empty([asking((2, ()), (1, ())), ("give", 0, (0, ())), ("test", "p", 0, (1, ()), (1, ()))])
        first = [("ask", "a", 0, (1, ()), (2, ())), ("ask", "a", 1, (1, ()), (3, ())), ("end",), ("give", 1, (3, ()))]
        self.assert_empty(first)
        self.assert_filled(first[:3] + [("give", 0, (3, ()))])

    def test_states_that_no_way_comes_to(self):
        self.assert_filled([("end",), ("give", 7, (1, ((3, 4),)))])
        self.assert_filled([asking((0, ())), ("give", (1, 2), (0, ((3, 4),))), ("end",)])
        self.assert_empty([("end",), ("give", 7, (2, ()))], [("end",), ("give", 7, (1, ((3, 4), (3, 4))))])

    def test_each_register(self):
        for first in range(20):
            for second in range(20):
                loop = [asking((1, ()), (2, ()), first), ("give", second, (0, ())), ("end",)]
                self.assertIs(is_loop(loop), first == second)


class RunTest(unittest.TestCase):
    def run_of(self, loop, words, expected):
        """expected has each event's entries with blanks between, and commas between the events."""
        self.assertEqual([" ".join(event) for event in run_loop(loop, words.split())], expected)

    def test_each_kind_of_event_and_reply(self):
        self.run_of(LOOP, "", ["ask a"])
        self.run_of(LOOP, "none", ["ask a", "end"])
        self.run_of(LOOP, "item", ["ask a", "call f a0"])
        self.run_of(LOOP, "item fails", ["ask a", "call f a0", "failed"])
        self.run_of(LOOP, "item done close", ["ask a", "call f a0", "give [f(a0), f(a0)]", "closed"])
        self.run_of(LOOP, "item done more item done more none", [
            "ask a", "call f a0", "give [f(a0), f(a0)]", "ask a", "call f a1", "give [f(a1), f(a1)]", "ask a", "end",
        ])
        test = [
            ("ask", "b", 3, (1, ()), (2, ())), ("test", "p", (3,), (3, ()), (0, ())), ("end",), ("give", 3, (0, ())),
        ]
        self.run_of(test, "item yes", ["ask b", "test p [b0]", "give b0"])
        self.run_of(test, "item no item yes more",
                    ["ask b", "test p [b0]", "ask b", "test p [b1]", "give b1", "ask b"])
        self.run_of(test, "item fails", ["ask b", "test p [b0]", "failed"])
        self.assertEqual(run_loop([("end",)], []), [("end",)])

    def test_shapes(self):
        loop = [
            ("ask", "a", 0, (1, ()), (5, ())), ("ask", "b", 1, (2, ()), (5, ())),
            ("call", "f", (0, ((1,), 0)), 2, (3, ())), ("call", "gg", (2, 0), 2, (4, ())),
            ("give", ((2, (1, (0,))), 2), (0, ())), ("end",),
        ]
        call = "f([a0, [[b0], a0]])"
        self.run_of(loop, "item item done done", [
            "ask a", "ask b", "call f [a0, [[b0], a0]]", f"call gg [{call}, a0]",
            f"give [[gg([{call}, a0]), [b0, [a0]]], gg([{call}, a0])]",
        ])
        deep = [("ask", "a", 0, (1, ()), (0, ())), ("give", ((((((0,),),),),),), (0, ()))]
        self.run_of(deep, "item", ["ask a", "give [[[[[[a0]]]]]]"])

    def test_moves_at_once(self):
        swap = [
            ("ask", "a", 0, (1, ()), (3, ())), ("ask", "a", 1, (2, ()), (3, ())),
            ("give", (0, 1), (2, ((0, 1), (1, 0)))), ("end",),
        ]
        self.run_of(swap, "item item more more",
                    ["ask a", "ask a", "give [a0, a1]", "give [a1, a0]", "give [a0, a1]"])
        turn = swap[:1] + [
            ("ask", "a", 1, (2, ((2, 1), (1, 0), (0, 1))), (3, ())),
            ("give", (0, 1, 2), (2, ((2, 0), (0, 1), (1, 2)))), ("end",),
        ]
        self.run_of(turn, "item item more more", [
            "ask a", "ask a", "give [a1, a0, a1]", "give [a0, a1, a1]", "give [a1, a1, a0]",
        ])
        none = [("ask", "a", 0, (0, ((1, 0), (5, 0))), (1, ((0, 1), (1, 0)))), ("give", (0, 1, 5), (1, ()))]
        self.assertIs(is_loop(none), False)
        filled = [("ask", "a", 0, (1, ((1, 0),)), (0, ())), ("ask", "a", 0, (1, ()), (2, ((0, 1), (1, 0)))),
                  ("give", (0, 1), (2, ()))]
        self.run_of(filled, "item item none", ["ask a", "ask a", "ask a", "give [a0, a1]"])

    def test_the_register_is_filled_ahead_of_the_moves(self):
        loop = [
            ("ask", "a", 0, (1, ((1, 0),)), (0, ())), ("call", "f", 1, 1, (2, ((0, 1), (1, 0)))),
            ("give", (0, 1), (1, ())),
        ]
        self.run_of(loop, "item done more", ["ask a", "call f a0", "give [f(a0), a0]", "call f a0"])

    def test_items_of_several_sources(self):
        loop = [("ask", "d", 0, (1, ()), (0, ())), ("ask", "a", 1, (2, ()), (0, ())), ("give", (0, 1), (0, ()))]
        self.run_of(loop, "item item more item item",
                    ["ask d", "ask a", "give [d0, a0]", "ask d", "ask a", "give [d1, a1]"])
        self.run_of(loop, "item item more none", ["ask d", "ask a", "give [d0, a0]", "ask d", "ask d"])
        many = [("ask", "a", 0, (0, ((1, 0),)), (1, ())), ("end",)]
        self.assertEqual(len(run_loop(many, ["item"] * 100)), 101)

    def test_replies_that_are_bound(self):
        again = [("ask", "a", 0, (1, ()), (0, ())), ("test", "p", 0, (2, ()), (2, ())), ("call", "p", 0, 1, (1, ()))]
        for word in ("yes", "no"):
            row = ["item", word, "done", word, "done", word]
            self.assertEqual(len(run_loop(again, row)), 7)
            for other in ("yes", "no", "fails"):
                if other != word:
                    self.bad(again, row[:3] + [other], 3)
                    self.bad(again, row[:5] + [other] + row, 5)
        self.bad(again, ["item", "yes", "done", "yes", "fails"], 4)
        self.run_of(again, "none none none", ["ask a"] * 4)
        self.bad(again, ["none", "item"], 1)
        self.bad(again, ["none", "none", "item"], 2)
        both = [("ask", "a", 0, (1, ()), (1, ())), ("ask", "b", 0, (0, ()), (0, ()))]
        self.run_of(both, "none item none none none none", ["ask a", "ask b"] * 3 + ["ask a"])
        self.bad(both, ["none", "item", "item"], 2)
        self.bad(both, ["none", "none", "none", "item"], 3)

    def test_a_call_and_a_test_of_one_name(self):
        loop = [("ask", "a", 0, (1, ()), (0, ())), ("test", "f", 0, (2, ()), (2, ())), ("call", "f", 0, 0, (1, ()))]
        self.run_of(loop, "item no done yes done", ["ask a", "test f a0", "call f a0", "test f f(a0)", "call f f(a0)",
                                                    "test f f(f(a0))"])
        self.assertEqual(run_loop(loop, ["item", "no", "fails"])[-1], ("failed",))

    def bad(self, loop, row, position):
        error = error_of(run_loop, loop, row)
        self.assertIs(type(error), BadReplies, row)
        self.assertTrue(same(error.position, position), (row, error.position))

    def test_any_value_at_any_position(self):
        row = "item done more item done close".split()
        for position in range(len(row)):
            for value in any_values() + ["Item", "yes", "no", ["item"], ("item",)]:
                self.bad(LOOP, row[:position] + [value] + row[position + 1:], position)
                self.bad(LOOP, row[:position] + [value, value], position)

    def test_replies_to_other_events(self):
        test = [("ask", "a", 0, (1, ()), (0, ())), ("test", "p", 0, (0, ()), (0, ()))]
        loops = [(LOOP, "", ["item", "none"]), (LOOP, "item", ["done", "fails"]),
                 (LOOP, "item done", ["more", "close"]), (test, "item", ["yes", "no", "fails"])]
        for loop, words, right in loops:
            for word in WORDS:
                if word in right:
                    self.assertEqual(len(run_loop(loop, words.split() + [word])), len(words.split()) + 2)
                else:
                    self.bad(loop, words.split() + [word], len(words.split()))

    def test_too_many(self):
        for row in ("none", "item fails", "item done close", "item done more none"):
            words = row.split()
            for value in WORDS + any_values():
                self.bad(LOOP, words + [value], len(words))
                self.bad(LOOP, words + [value, None, "item"], len(words))
        for value in any_values():
            self.bad([("end",)], [value], 0)

    def test_what_is_no_loop(self):
        values = any_values() + [LOOP[1:] + LOOP[:1], tuple(LOOP), [("end",)] * 401, [LOOP], [("give", 0, (0, ()))]]
        for value in values:
            for row in ([], ["item"], [None], ["x"] * 3):
                error = error_of(run_loop, value, row)
                self.assertIs(type(error), BadLoop, value)
                self.assertIs(error.value, value)

    def test_what_is_handed_in_stays(self):
        loop, row = list(LOOP), ["item", "done", "more"]
        told = run_loop(loop, row)
        self.assertEqual((loop, row), (LOOP, ["item", "done", "more"]))
        told.clear()
        self.assertEqual(len(run_loop(loop, row)), 4)
        error_of(run_loop, loop, row + [["x"]])
        self.assertEqual(loop, LOOP)
        is_loop(loop)
        self.assertEqual(loop, LOOP)


if __name__ == "__main__":
    unittest.main()
