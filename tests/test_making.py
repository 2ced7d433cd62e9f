"""made of the interface: what is made is a loop, and shows what the program shows."""

import random
import unittest

from pulledonce.errors import BadReplies
from pulledonce.loops import is_loop, run_loop
from pulledonce.making import made
from pulledonce.programs import Program
from pulledonce.walks import run
from tests.brute import drawn_program, drawn_row, many_stages, programs, runs, weight
from tests.reference import reference_events
from tests.support import any_values, error_of

MAP, KEEP, WHILE, AFTER = ("map", "f"), ("keep", "p"), ("while", "p"), ("after", "p")
FLAT = ("flat",)
WORDS = ["item", "none", "done", "fails", "yes", "no", "more", "close"]

EACH_KIND = (
    [[]] + [[stage] for stage in (MAP, KEEP, WHILE, AFTER)]
    + [[(kind, n)] for kind in ("take", "skip", "lots", "gather") for n in (1, 2, 3, 4)]
    + [[("lots", n), FLAT] for n in (1, 2, 3, 4)]
    + [[("zip", Program("b"))], [("zip", Program("b", [KEEP, ("lots", 2)]))]]
)

# Programs of a weight up to 12 with stages that hold much, or that there are many of.
HEAVY = [
    [("lots", 2), ("lots", 3)],
    [("lots", 3), ("lots", 2), KEEP, MAP],
    [("lots", 2), ("lots", 1), FLAT, KEEP],
    [("lots", 2), KEEP, FLAT, ("gather", 1), MAP],
    [("gather", 2), ("gather", 3)],
    [("lots", 3), KEEP, ("gather", 2), MAP],
    [("gather", 3), ("lots", 2)],
    [KEEP, ("skip", 3), WHILE, ("take", 2), MAP, ("keep", "q")],
    [MAP, ("lots", 3), KEEP, FLAT, WHILE],
    [AFTER, ("lots", 2), FLAT, KEEP, MAP],
    [("lots", 4), FLAT, KEEP, WHILE, MAP, ("map", "g")],
    [("take", 2), ("lots", 3), ("map", "f")],
    [("zip", Program("b", [("lots", 2)])), FLAT],
    [("lots", 2), ("zip", Program("b", [("gather", 1)])), MAP],
    [KEEP, ("zip", Program("b", [KEEP, ("gather", 2)])), FLAT, KEEP],
    [("zip", Program("b", [("zip", Program("c", [("skip", 2), KEEP]))])), MAP],
    [("zip", Program("b", [("zip", Program("c", [("zip", Program("d"))]))])), KEEP],
    [("zip", Program("b", [("zip", Program("c"))])), FLAT, MAP],
    [("zip", Program("b", [KEEP])), ("zip", Program("c", [WHILE])), ("take", 2), KEEP],
    [("take", 1), ("zip", Program("b", [("take", 2)])), MAP],
    [MAP, KEEP, ("zip", Program("b", [MAP, KEEP, WHILE])), FLAT, KEEP],
]


class MadeTest(unittest.TestCase):
    def assert_right_form(self, program):
        loop = made(program)
        self.assertIs(type(loop), list)
        self.assertIs(is_loop(loop), True, program.stages)
        return loop

    def assert_same_events(self, program, loop, row):
        expected = reference_events(program, row)
        self.assertEqual(run_loop(loop, list(row)), expected, (program.stages, row))
        self.assertEqual(run(program, list(row)), expected, (program.stages, row))

    def compare(self, program, most, draw, many=10):
        loop = self.assert_right_form(program)
        for row, _ in runs(program, most):
            self.assert_same_events(program, loop, row)
        for _ in range(many):
            self.assert_same_events(program, loop, drawn_row(program, 60, draw))

    def test_each_kind(self):
        draw = random.Random(1)
        for stages in EACH_KIND:
            for source in "ad":
                self.compare(Program(source, stages), 8, draw)

    def test_heavy_programs(self):
        draw = random.Random(2)
        for stages in HEAVY:
            program = Program("a", stages)
            self.assertLessEqual(weight(program), 12, stages)
            self.compare(program, 8, draw)

    def test_programs_of_two_stages(self):
        draw = random.Random(3)
        small = [MAP, KEEP, WHILE, AFTER, ("take", 2), ("skip", 1), ("lots", 2), FLAT, ("gather", 2),
                 ("zip", Program("b", [("take", 1), KEEP]))]
        for program in programs(small, 2):
            self.compare(program, 6, draw, 3)

    def test_drawn_programs(self):
        draw = random.Random(4)
        many = 0
        while many < 300:
            program = drawn_program(draw)
            if weight(program) <= 12 and many_stages(program) <= 8:
                self.compare(program, 3, draw, 4)
                many += 1

    def test_rows_to_the_end(self):
        for stages in EACH_KIND + HEAVY:
            program = Program("a", stages)
            loop = made(program)
            row = []
            while reference_events(program, row)[-1] != ("end",):
                # A source gives five items, and then no more.
                event = reference_events(program, row)[-1]
                asked = reference_events(program, row).count(event)
                row.append({"call": "done", "test": "yes", "give": "more"}.get(event[0]) or ("item" if asked < 6 else "none"))
            self.assert_same_events(program, loop, row)

    def test_rows_that_can_not_be_replied(self):
        draw = random.Random(5)
        for stages in EACH_KIND + HEAVY:
            program = Program("a", stages)
            loop = made(program)
            for _ in range(20):
                row = drawn_row(program, 20, draw) + draw.choice([[], ["more"], ["item", None]])
                at = draw.randrange(len(row) + 1)
                row[at:at + draw.randrange(2)] = [draw.choice(WORDS + any_values())]
                errors = [error_of(run, program, row), error_of(run_loop, loop, row)]
                self.assertEqual(type(errors[0]), type(errors[1]), (stages, row))
                if errors[0] is not None:
                    self.assertIs(type(errors[0]), BadReplies)
                    self.assertEqual(errors[0].position, errors[1].position, (stages, row))

    def test_what_is_told_is_new(self):
        program = Program("a", [KEEP, ("lots", 2)])
        first = made(program)
        second = made(program=program)
        self.assertEqual(first, second)
        first.clear()
        self.assertEqual(made(program), second)
        self.assertEqual(program.stages, (KEEP, ("lots", 2)))


if __name__ == "__main__":
    unittest.main()
