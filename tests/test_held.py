"""most_held of the interface, also beside all rows of replies up to a length."""

import random
import unittest

from pulledonce.held import most_held
from pulledonce.programs import Program
from pulledonce.walks import run
from tests.brute import drawn_program, drawn_row, programs, replies_after, room, runs
from tests.holding import HoldingRun, held_at_events
from tests.reference import reference_events

MAP, KEEP, WHILE, AFTER = ("map", "f"), ("keep", "p"), ("while", "p"), ("after", "p")
FLAT = ("flat",)
SMALL = [
    MAP, KEEP, WHILE, AFTER, ("take", 1), ("skip", 1), ("lots", 2), ("lots", 3), FLAT, ("gather", 2), ("gather", 3),
    ("zip", Program("b", [("take", 1), ("gather", 2)])),
]


def zipped(*stages, source="b"):
    return ("zip", Program(source, stages))


class MostTest(unittest.TestCase):
    def assert_most(self, program, expected=None, length=None):
        """At the last event so many are held, and at none before."""
        told = most_held(program)
        self.assertEqual([type(told), type(told[0]), type(told[1])], [tuple, int, list])
        self.assertEqual(reference_events(program, told[1]), run(program, told[1]))
        numbers = held_at_events(program, told[1])
        self.assertEqual(numbers[-1], told[0], (program.stages, told))
        self.assertTrue(all(number < told[0] for number in numbers[:-1]), (program.stages, told, numbers))
        if expected is not None:
            self.assertEqual((told[0], len(told[1])), (expected, length), (program.stages, told))
        return told

    def most(self, stages, expected, length):
        self.assert_most(Program("a", stages), expected, length)


class KnownTest(MostTest):
    def test_no_stages_and_stages_that_hold_nothing(self):
        self.most([], 1, 1)
        for stage in (MAP, KEEP, WHILE, AFTER, ("take", 3)):
            self.most([stage], 1, 1)
            self.most([stage, stage, MAP, KEEP], 1, 1)
        self.most([("skip", 3)], 1, 4)
        self.most([("skip", 3), KEEP], 1, 4)
        self.assertEqual(most_held(Program("d")), (1, ["item"]))

    def test_programs_that_hold_nothing(self):
        self.most([("take", 1), ("skip", 1)], 0, 0)
        self.most([("take", 2), ("skip", 2), MAP, ("lots", 2)], 0, 0)
        self.most([("take", 2), KEEP, ("skip", 3)], 1, 1)

    def test_each_kind_of_stage_that_holds(self):
        for n in (1, 2, 3, 4):
            self.most([("gather", n)], n, n)
            self.most([("lots", n)], n, n)
            self.most([("lots", n), FLAT], n, n)
        self.most([zipped()], 2, 2)
        self.most([zipped(KEEP)], 2, 2)

    def test_behind_others(self):
        self.most([("lots", 2), ("lots", 3)], 6, 6)
        self.most([KEEP, ("lots", 2)], 2, 3)
        self.most([KEEP, ("gather", 3)], 3, 5)
        self.most([MAP, ("gather", 3)], 3, 5)
        self.most([("lots", 2), MAP, ("gather", 2)], 4, 5)
        self.most([("skip", 2), ("lots", 2)], 2, 4)
        self.most([("take", 2), ("lots", 4)], 2, 2)
        self.most([("take", 3), ("gather", 4)], 3, 3)
        self.most([("gather", 2), ("gather", 2)], 3, 3)
        self.most([("gather", 2), ("gather", 4)], 5, 5)
        self.most([("gather", 4), ("take", 1)], 4, 4)
        self.most([("lots", 2), FLAT, ("lots", 4)], 4, 4)
        self.most([("lots", 2), FLAT, ("lots", 3)], 4, 4)
        self.most([("lots", 3), FLAT, KEEP, ("gather", 2)], 4, 9)
        self.most([("lots", 2), KEEP, FLAT, ("gather", 3)], 4, 5)

    def test_behind_a_test_with_more_than_one_reply(self):
        # A row of which a test says no is gone; while its items are held nothing else is.
        self.most([("lots", 3), KEEP], 3, 3)
        self.most([("gather", 2), KEEP, ("gather", 2)], 3, 4)
        self.most([("gather", 2), AFTER, ("gather", 2)], 3, 4)

    def test_zips(self):
        self.most([("lots", 2), zipped()], 3, 3)
        self.most([zipped(("lots", 2))], 3, 3)
        self.most([("gather", 2), zipped(("gather", 3))], 5, 5)
        self.most([zipped(), zipped(source="c")], 3, 3)
        self.most([zipped(zipped(source="c"), ("lots", 2))], 5, 5)
        self.most([zipped(), FLAT], 2, 2)
        self.most([zipped(), ("lots", 2)], 4, 4)
        self.most([zipped(("take", 1)), ("gather", 2)], 2, 2)
        self.most([zipped(("skip", 2), ("take", 1), ("skip", 1))], 1, 1)

    def test_things_that_never_come_on_any_more(self):
        # The other program's gather holds on to what its full take will not ask for.
        self.most([("gather", 2), zipped(("gather", 3), ("take", 1))], 5, 5)
        self.most([zipped(("gather", 3), ("take", 1)), FLAT, ("gather", 4)], 4, 4)
        self.most([("gather", 3), zipped(("gather", 2), ("take", 1)), ("lots", 4)], 5, 5)
        # What the full take leaves in the gather is held at the later events, too.
        last = run(Program("a", [("gather", 3), ("take", 1)]), ["item", "item", "item", "more"])
        self.assertEqual(last[-1], ("end",))
        self.most([("gather", 3), ("take", 1), zipped(("lots", 4))], 7, 7)

    def test_replies_that_bind(self):
        self.most([KEEP, ("gather", 2), WHILE, ("lots", 3)], 4, 9)
        self.most([("gather", 2), KEEP, KEEP, ("gather", 2)], 3, 5)

    def test_what_is_told_is_new(self):
        program = Program("a", [("gather", 2)])
        most_held(program)[1].append("x")
        self.assertEqual(most_held(program=program), (2, ["item", "item"]))
        self.assertEqual(program.stages, (("gather", 2),))


class AllRowsTest(MostTest):
    def compare(self, program, most):
        """No row up to a length holds more, and none that is shorter as many."""
        told = self.assert_most(program)
        for row, _ in runs(program, most):
            numbers = HoldingRun(program, row).numbers
            if len(numbers) > len(row):
                self.assertLessEqual(numbers[-1], told[0] - (len(row) < len(told[1])), (program.stages, told, row))

    def test_short_programs(self):
        for program in programs(SMALL, 2):
            self.compare(program, 9)

    def test_longer_programs(self):
        for program in list(programs(SMALL, 3))[::6]:
            self.compare(program, 7)

    def test_drawn_programs(self):
        draw = random.Random(7)
        many = 0
        while many < 400:
            program = drawn_program(draw)
            if room(program) > 8:
                continue
            told = self.assert_most(program)
            self.compare(program, 3)
            for _ in range(5):
                self.assertLessEqual(max(held_at_events(program, drawn_row(program, 50, draw)), default=0), told[0])
            many += 1


class HoldingRunTest(unittest.TestCase):
    def test_it_shows_the_same_events_as_the_reference(self):
        draw = random.Random(8)
        for _ in range(300):
            program = drawn_program(draw)
            row = drawn_row(program, 40, draw)
            events = reference_events(program, row)
            held = HoldingRun(program, row)
            self.assertEqual(held.events, events[:len(held.events)])
            self.assertEqual(len(held.events), len([event for event in events if replies_after([event], [])]))


if __name__ == "__main__":
    unittest.main()
