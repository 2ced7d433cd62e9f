"""way_to and reaches of the interface, also beside all rows of replies up to a length."""

import unittest

from pulledonce.errors import BadReply
from pulledonce.programs import Program
from pulledonce.walks import Walk, run
from pulledonce.ways import reaches, way_to
from tests.brute import first_shows, programs
from tests.reference import reference_events
from tests.support import any_values, same
from tests.test_stages import event

PROGRAM = Program("a", [("keep", "p"), ("map", "f")])
SMALL = [
    ("map", "f"), ("keep", "p"), ("while", "p"), ("after", "p"), ("take", 2), ("skip", 1), ("lots", 2), ("flat",),
    ("gather", 2), ("zip", Program("b", [("take", 1)])), ("zip", Program("c", [("keep", "p")])),
]
LONG = [
    [("keep", "p"), ("lots", 2), ("keep", "q"), ("flat",), ("keep", "p"), ("take", 2)],
    [("gather", 2), ("lots", 2), ("gather", 2), ("flat",), ("after", "p"), ("map", "f")],
    [("lots", 2), ("zip", Program("b", [("lots", 2), ("zip", Program("c"))])), ("flat",), ("flat",), ("skip", 2)],
    [("zip", Program("b", [("keep", "p"), ("take", 2)])), ("flat",), ("while", "p"), ("lots", 4)],
]


class WayTest(unittest.TestCase):
    def assert_way(self, program, shown, length):
        """A shortest row has so many replies, and with the last one the event shows for the first time."""
        row = way_to(program, shown)
        self.assertIs(type(row), list, (program.stages, shown))
        self.assertEqual(len(row), length, (program.stages, shown, row))
        events = reference_events(program, row)
        self.assertEqual(run(program, row), events)
        self.assertEqual(events.index(shown), length)
        self.assertIs(reaches(program, shown), True)

    def way(self, stages, text, length):
        self.assert_way(Program("a", stages), event(text), length)

    def assert_none(self, program, value):
        self.assertIsNone(way_to(program, value), value)
        self.assertIs(reaches(program, value), False)

    def never(self, stages, *texts):
        for text in texts:
            self.assert_none(Program("a", stages), event(text))


class ShowsTest(WayTest):
    def test_the_first_event(self):
        for source in "abcd":
            self.assertEqual(way_to(Program(source), ("ask", source)), [])
            self.assert_way(Program(source, [("take", 1), ("map", "f")]), ("ask", source), 0)
        way_to(PROGRAM, ("ask", "a")).append("x")
        self.assertEqual(way_to(PROGRAM, ("ask", "a")), [])

    def test_the_only_ways(self):
        self.assertEqual(way_to(PROGRAM, ("give", "f(a1)")), "item no item yes done".split())
        self.assertEqual(way_to(PROGRAM, ("call", "f", "a0")), ["item", "yes"])
        self.assertEqual(way_to(PROGRAM, ("end",)), ["none"])
        self.assertEqual(way_to(PROGRAM, ("closed",)), "item yes done close".split())
        self.assertEqual(way_to(PROGRAM, ("failed",)), ["item", "fails"])
        self.assertEqual(way_to(Program("a", [("lots", 2)]), ("give", "[a0]")), ["item", "none"])

    def test_each_kind_of_event(self):
        self.way([], "give a5", 11)
        self.way([], "end", 1)
        self.way([], "closed", 2)
        self.way([("keep", "p")], "failed", 2)
        self.way([("keep", "p")], "test p a5", 11)
        self.way([("keep", "p")], "give a5", 12)
        self.way([("while", "p")], "test p a5", 16)
        self.way([("after", "p")], "give a5", 12)
        self.way([("after", "p")], "end", 1)
        self.way([("skip", 4)], "give a5", 7)
        self.way([("map", "f"), ("map", "g")], "call g f(a3)", 14)
        self.way([("zip", Program("b"))], "ask b", 1)
        self.way([("zip", Program("b", [("zip", Program("c", [("keep", "p")]))]))], "ask c", 2)

    def test_rows(self):
        self.way([("lots", 3)], "give [a3, a4]", 7)
        self.way([("lots", 3)], "give [a3, a4, a5]", 7)
        self.way([("keep", "p"), ("lots", 2)], "give [a1, a4]", 10)
        self.way([("keep", "p"), ("lots", 2)], "give [a5]", 13)
        self.way([("lots", 2), ("keep", "p"), ("flat",)], "give a3", 7)
        self.way([("gather", 2), ("lots", 2)], "give [a0, a1]", 3)
        self.way([("lots", 2), ("lots", 2), ("flat",)], "give [a2]", 5)

    def test_zips(self):
        keep = ("keep", "p")
        both = [keep, ("zip", Program("b", [keep]))]
        self.way(both, "give [a0, b0]", 4)
        self.way(both, "give [a2, b3]", 14)
        self.way(both, "test p b5", 13)
        self.way([("zip", Program("b", [("skip", 1)]))], "give [a1, b2]", 6)
        self.way([("zip", Program("b", [("zip", Program("c"))])), ("flat",)], "give [b1, c1]", 9)
        self.way([keep, ("zip", Program("b", [keep, ("zip", Program("c", [keep, ("zip", Program("d", [keep]))]))]))],
                 "give [a5, [b5, [c5, d5]]]", 48)

    def test_numbers_somewhat_above_five(self):
        self.way([], "give a10", 21)
        self.way([("keep", "p"), ("lots", 2)], "give [a6, a12]", 26)

    def test_replies_that_bind(self):
        self.way([("keep", "p"), ("keep", "p")], "give a0", 3)
        self.way([("while", "p"), ("keep", "p"), ("map", "f")], "call f a1", 8)
        self.way([("lots", 2), ("keep", "p"), ("flat",), ("lots", 2), ("keep", "p")], "give [a0, a1]", 4)


class NeverTest(WayTest):
    def test_what_the_stages_do_not_do(self):
        self.never([("keep", "p"), ("map", "f")], "give a0", "call f f(a0)", "call p a0", "test f a0", "test p f(a0)",
                   "give [a0]", "give f(b0)", "ask b", "call g a0", "give f(f(a0))")
        self.never([], "failed", "ask d", "give b0", "test p a0", "call f a0")
        self.never([("take", 2)], "give a2", "give a5")
        self.never([("take", 2), ("skip", 2)], "give a0", "give a2", "closed")
        self.never([("skip", 2)], "give a0", "give a1")
        self.never([("take", 1), ("skip", 1), ("map", "f")], "call f a0", "call f a1", "failed", "closed")

    def test_rows(self):
        self.never([("lots", 2)], "give [a1, a2]", "give [a1]", "give [a0, a2]", "give [a1, a0]", "give [a0, a0]",
                   "give [a0, a1, a2]", "give []", "give a0")
        self.never([("keep", "p"), ("lots", 2)], "give [a2, a1]", "give [a1, b2]", "give [[a1, a2]]")
        self.never([("lots", 2), ("lots", 2)], "give [a0]", "give [[a0], [a1]]", "give [[a1, a2]]", "give [[a0, a1, a2]]")
        self.never([("lots", 2), ("keep", "p"), ("flat",), ("lots", 2)], "give [a1, a2]", "give [a0, a3]")

    def test_zips(self):
        self.never([("zip", Program("b"))], "give [b0, a0]", "give [a0, b1]", "give [a1, b0]", "give a0", "give b0",
                   "give [a0, c0]", "ask c")
        self.never([("zip", Program("b", [("take", 1)]))], "give [a1, b1]", "give [a1, b0]")
        self.never([("zip", Program("b", [("take", 1), ("skip", 1)]))], "give [a0, b0]", "closed")

    def test_replies_that_bind(self):
        self.never([("while", "p"), ("take", 2), ("keep", "p"), ("lots", 2)], "give [a1]")
        self.way([("while", "p"), ("take", 2), ("keep", "q"), ("lots", 2)], "give [a1]", 6)
        self.never([("while", "p"), ("lots", 1), ("flat",), ("skip", 1), ("after", "p"), ("lots", 2)], "give [a2]")
        self.way([("while", "p"), ("lots", 1), ("flat",), ("skip", 1), ("after", "q"), ("lots", 2)], "give [a2]", 9)

    def test_replies_that_bind_far_behind(self):
        for kind in ("keep", "while", "after"):
            for between in ([("gather", 2)], [("lots", 2), ("flat",)], [("gather", 2), ("gather", 1)]):
                both = [("while", "p"), ("take", 2)] + between
                self.never(both + [(kind, "p"), ("lots", 2)], "give [a1]", "give []")
                if kind != "while":
                    self.way(both + [(kind, "q"), ("lots", 2)], "give [a1]", 6)

    def test_wrong_forms(self):
        self.never([("lots", 2), ("map", "f")], "give f([a0,a1])", "give f[a0, a1]", "give f([a0, a1]", "give  f([a0, a1])",
                   "give f([a0, a1]) ", "give f([a0, a1])\n", "give F([a0, a1])", "give f([a0, A1])", "give", "give ",
                   "give f([a00, a1])", "give f([a0, a01])", "give f([*, *])", "give f([a0, *])", "give f([a, a1])",
                   "give f([a0, 1])", "give f([0, 1])", "give f([-1, a0])", "give f([a-1, a0])", "give *")
        self.never([], "give *", "give a*", "give **", "give 0", "give a", "give a00", "give aa0", "give a0a0", "give b0",
                   "give a0 ", "give  a0", "give a0\n")

    def test_any_value(self):
        values = any_values() + [
            ("ask",), ("ask", 0), ("ask", "a", "a"), ("ask", ["a"]), ["ask", "a"], "ask", ("Ask", "a"), ("ask", None),
            ("give",), ("give", 0), ("give", ("a0",)), ("give", ["f(a0)"]), ("give", "f(a0)", "f(a0)"), ["give", "f(a0)"],
            ("call", "f"), ("call", "f", 0), ("call", None, "a0"), ("call", "f", "a0", "a0"), ("call", "a0", "f"),
            ("test", "p", ["a0"]), ("test", {}, "a0"), ("test", "p"), ("p", "a0"), ("end", "a"), ["end"], "end", ("end",) * 2,
            ("failed", "f"), ("closed", None), (("end",),), (True,), (None, "a"), ([], "a"), ({}, "f", "a0"), ("none",),
            ("item",), Walk(PROGRAM), BadReply("end"),
        ]
        for value in values:
            self.assert_none(PROGRAM, value)

    def test_nothing_is_changed(self):
        value = [("give", "f(a0)")]
        self.assert_none(PROGRAM, value)
        self.assertTrue(same(value, [("give", "f(a0)")]))


class AllRowsTest(WayTest):
    def compare(self, program, most, others):
        """All events up to a length, and some that do not show within it."""
        lengths = first_shows(program, most)
        for shown in lengths:
            self.assert_way(program, shown, lengths[shown])
        for other in others:
            if other not in lengths:
                row = way_to(program, other)
                self.assertIs(reaches(program, other), row is not None)
                if row is not None:
                    self.assertGreater(len(row), most)
                    self.assert_way(program, other, len(row))

    def test_short_programs(self):
        others = list(first_shows(Program("a", [("map", "f"), ("zip", Program("b"))]), 4))
        for program in programs(SMALL, 2):
            self.compare(program, 9, others)
            others = sorted(set(others[-20:]) | set(list(first_shows(program, 5))[-6:]))

    def test_long_programs(self):
        for stages in LONG:
            self.compare(Program("a", stages), 13, [("give", "a0"), ("test", "p", "[a0]"), ("failed",), ("ask", "c")])


class ExampleTest(unittest.TestCase):
    def test_arguments_by_name(self):
        self.assertEqual(way_to(program=PROGRAM, event=("end",)), ["none"])
        self.assertIs(reaches(program=PROGRAM, event=("end",)), True)


if __name__ == "__main__":
    unittest.main()
