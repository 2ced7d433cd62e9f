"""parting and alike of the interface, also beside all rows of replies up to a length."""

import unittest

from pulledonce.alike import alike, parting
from pulledonce.programs import Program
from pulledonce.walks import run
from tests.brute import programs, shortest_difference
from tests.reference import reference_events
from tests.support import error_of

MAP, KEEP, WHILE, AFTER = ("map", "f"), ("keep", "p"), ("while", "p"), ("after", "p")
FLAT = ("flat",)

SMALL = [
    MAP, KEEP, WHILE, AFTER, ("take", 1), ("take", 2), ("skip", 1), ("lots", 1), ("lots", 2), FLAT, ("gather", 1),
    ("gather", 2), ("zip", Program("b", [("take", 1)])),
]

# Pairs of rows of stages that are alike wherever they stand, by their making.
ALIKE = [
    ([("gather", 1)], []),
    ([("lots", 1), FLAT], []),
    ([("take", 2), ("take", 3)], [("take", 2)]),
    ([("take", 3), ("take", 2)], [("take", 2)]),
    ([("take", 1), ("skip", 1)], [("take", 1), ("skip", 1), ("map", "f"), KEEP]),
    ([("take", 2), ("skip", 2)], [("take", 2), ("skip", 4)]),
    ([("skip", 1), ("skip", 2)], [("skip", 3)]),
    ([("skip", 2), ("skip", 2)], [("skip", 1), ("skip", 3)]),
    ([MAP, ("take", 2)], [("take", 2), MAP]),
    ([KEEP, WHILE], [KEEP, KEEP]),
    ([AFTER, KEEP], [KEEP, AFTER]),
    ([KEEP, KEEP, AFTER], [KEEP, AFTER, KEEP]),
    ([("skip", 1), ("take", 2)], [("take", 3), ("skip", 1)]),
    ([("gather", 2), ("take", 1)], [("gather", 2), ("take", 1), ("gather", 3)]),
    ([("gather", 2), ("skip", 1)], [("skip", 1), ("gather", 2)]),
    ([("gather", 2), ("gather", 2)], [("gather", 3)]),
    ([("lots", 2), ("take", 1)], [("take", 2), ("lots", 2)]),
    ([("skip", 2), ("lots", 2)], [("lots", 2), ("skip", 1)]),
    ([("lots", 2), ("take", 1), FLAT], [("take", 2), ("lots", 2), FLAT]),
    ([("lots", 2), ("lots", 2), FLAT, FLAT], [("lots", 4), FLAT]),
]

# Pairs of rows of stages that differ a little.
UNLIKE = [
    ([("gather", 2)], []),
    ([("lots", 1)], []),
    ([("lots", 2), FLAT], []),
    ([("lots", 2), FLAT], [("gather", 2)]),
    ([("take", 2)], [("take", 3)]),
    ([("skip", 2)], [("skip", 3)]),
    ([("lots", 2)], [("lots", 3)]),
    ([("gather", 3)], [("gather", 2)]),
    ([MAP], [("map", "g")]),
    ([MAP], [KEEP]),
    ([KEEP], [WHILE]),
    ([KEEP], [AFTER]),
    ([KEEP], [("keep", "q")]),
    ([KEEP, ("keep", "q")], [("keep", "q"), KEEP]),
    ([KEEP, KEEP], [KEEP]),
    ([KEEP, ("take", 1)], [("take", 1), KEEP]),
    ([MAP, ("skip", 1)], [("skip", 1), MAP]),
    ([MAP, ("lots", 2)], [("lots", 2), MAP]),
    ([("skip", 1), ("take", 2)], [("take", 2), ("skip", 1)]),
    ([("gather", 2), MAP], [MAP, ("gather", 2)]),
    ([AFTER, WHILE], [WHILE, AFTER]),
    ([KEEP, WHILE], [KEEP]),
    ([("lots", 2), ("take", 1)], [("take", 3), ("lots", 2)]),
    ([("skip", 1), ("lots", 2)], [("lots", 2), ("skip", 1)]),
    ([("gather", 2), ("gather", 2)], [("gather", 4)]),
    ([("lots", 2), ("lots", 2), FLAT], [("lots", 2)]),
]


def wrapped(stages):
    """Programs that have some stages alone, within zips, ahead of others and behind others."""
    inner = Program("b", stages)
    return [
        Program("a", stages),
        Program("a", [("zip", inner)]),
        Program("a", [("keep", "q"), ("zip", inner), ("take", 3)]),
        Program("a", [("zip", Program("c", [("gather", 2), ("zip", inner)])), FLAT]),
        Program("a", list(stages) + [("zip", Program("c"))]),
        Program("a", [("zip", Program("c"))] + list(stages)),
        Program("d", [("while", "q")] + list(stages)),
        Program("d", list(stages) + [("gather", 2), ("map", "g")]),
    ]


class PartingTest(unittest.TestCase):
    def assert_alike(self, first, second):
        for one, two in ((first, second), (second, first)):
            self.assertIsNone(parting(one, two), (one.stages, two.stages))
            self.assertIs(alike(one, two), True)

    def assert_parted(self, first, second, length=None):
        """The rows can come on both sides, and other events show behind the last reply alone."""
        rows = [parting(first, second), parting(second, first)]
        for row in rows:
            self.assertIs(type(row), list, (first.stages, second.stages))
            events = [reference_events(first, row), reference_events(second, row)]
            self.assertEqual(events, [run(first, row), run(second, row)])
            self.assertEqual(events[0][:-1], events[1][:-1])
            self.assertNotEqual(events[0][-1], events[1][-1])
        self.assertEqual(len(rows[0]), len(rows[1]))
        if length is not None:
            self.assertEqual(len(rows[0]), length)
        self.assertIs(alike(first, second), False)
        self.assertIs(alike(second, first), False)
        return len(rows[0])


class ByTheirMakingTest(PartingTest):
    def test_programs_that_are_alike(self):
        for left, right in ALIKE:
            for first, second in zip(wrapped(left), wrapped(right)):
                self.assert_alike(first, second)

    def test_a_program_and_itself(self):
        for stages in [left for left, _ in ALIKE + UNLIKE]:
            for first, second in zip(wrapped(stages), wrapped(tuple(stages))):
                self.assert_alike(first, second)

    def test_programs_that_differ_a_little(self):
        for left, right in UNLIKE:
            for first, second in zip(wrapped(left)[:2] + wrapped(left)[4:5], wrapped(right)[:2] + wrapped(right)[4:5]):
                length = self.assert_parted(first, second)
                brute = shortest_difference(first, second, (), (), length if length < 12 else 0)
                self.assertTrue(length >= 12 or len(brute) == length, (first.stages, second.stages, length, brute))

    def test_lots_and_flat_against_what_it_is(self):
        for n in (1, 2, 3, 4):
            for other in (1, 2, 3, 4):
                left, right = Program("a", [("lots", n), FLAT]), Program("a", [("gather", other)])
                if n == other == 1:
                    self.assert_alike(left, right)
                else:
                    self.assert_parted(left, right, min(n, other) + (n == other))

    def test_takes_and_skips(self):
        for n in (1, 2, 3, 4):
            for other in (1, 2, 3, 4):
                two = Program("a", [("take", n), ("take", other)])
                self.assert_alike(two, Program("a", [("take", min(n, other))]))
                left, right = Program("a", [("take", n)]), Program("a", [("take", other)])
                if n != other:
                    self.assert_parted(left, right, 2 * min(n, other))
                    self.assert_parted(Program("a", [("skip", n)]), Program("a", [("skip", other)]), min(n, other) + 1)
                if n + other <= 4:
                    self.assert_alike(Program("a", [("skip", n), ("skip", other)]), Program("a", [("skip", n + other)]))

    def test_functions_of_rows(self):
        self.assert_parted(Program("a", [KEEP, ("lots", 2), KEEP, FLAT, KEEP]), Program("a", [KEEP, ("lots", 2), KEEP, FLAT]))
        self.assert_alike(Program("a", [("lots", 2), KEEP, FLAT, ("lots", 2), KEEP, WHILE]),
                          Program("a", [("lots", 2), KEEP, FLAT, ("lots", 2), WHILE, KEEP]))

    def test_tests_that_are_bound(self):
        self.assert_alike(Program("a", [KEEP, ("skip", 1), KEEP, ("take", 2), WHILE]),
                          Program("a", [KEEP, ("skip", 1), KEEP, ("take", 2), KEEP]))
        self.assert_alike(Program("a", [KEEP, ("gather", 2), AFTER, WHILE, KEEP]),
                          Program("a", [KEEP, ("gather", 2), AFTER, KEEP, WHILE]))
        self.assert_parted(Program("a", [("keep", "q"), ("gather", 2), WHILE]),
                           Program("a", [("keep", "q"), ("gather", 2), KEEP]))
        self.assert_parted(Program("a", [("lots", 2), WHILE, FLAT, KEEP]), Program("a", [("lots", 2), WHILE, FLAT, WHILE]))
        self.assert_alike(Program("a", [("after", "p"), ("take", 1), ("keep", "p")]),
                          Program("a", [("after", "p"), ("take", 1), ("while", "p")]))

    def test_tests_that_are_bound_far_behind(self):
        kinds = ("keep", "while", "after")
        for between in ([("gather", 2)], [("lots", 2), FLAT], [("lots", 2), ("gather", 2), FLAT]):
            bound = [[("take", 1), KEEP] + between + [(kind, "p")] for kind in kinds]
            for first in bound:
                for second in bound:
                    self.assert_alike(Program("a", first), Program("a", second))
            free = [[("take", 3), AFTER] + between + [(kind, "p")] for kind in kinds]
            for one, two in ((0, 1), (0, 2), (1, 2)):
                self.assert_parted(Program("a", free[one]), Program("a", free[two]))


class PlacesTest(PartingTest):
    def test_other_sources(self):
        for first in "abcd":
            for second in "abcd":
                if first != second:
                    self.assert_parted(Program(first, [MAP]), Program(second, [MAP]), 0)
                    self.assertEqual(parting(Program(first), Program(second)), [])
        self.assert_parted(Program("a", [("zip", Program("b"))]), Program("a", [("zip", Program("c"))]), 1)
        self.assert_parted(Program("a", [("zip", Program("b"))]), Program("b", [("zip", Program("a"))]), 0)
        self.assert_parted(Program("a", [("zip", Program("b"))]), Program("a"), 1)

    def test_zips_in_another_sequence(self):
        one = [("zip", Program("b")), ("zip", Program("c"))]
        self.assert_parted(Program("a", one), Program("a", one[::-1]), 1)
        self.assert_parted(Program("a", one), Program("a", [("zip", Program("b", [("zip", Program("c"))]))]), 3)

    def test_a_take_ahead_of_a_zip_and_behind_it(self):
        other = ("zip", Program("b"))
        self.assert_alike(Program("a", [("take", 2), other]), Program("a", [other, ("take", 2)]))
        self.assert_parted(Program("a", [other, ("take", 2)]), Program("a", [("zip", Program("b", [("take", 2)]))]), 6)
        self.assert_parted(Program("a", [KEEP, other]), Program("a", [other, KEEP]), 1)

    def test_which_replies_part(self):
        self.assertEqual(parting(Program("a", [("lots", 2)]), Program("a", [("lots", 2), FLAT, ("lots", 3)])),
                         ["item", "item"])
        self.assertEqual(parting(Program("a", [("take", 1)]), Program("a")), ["item", "more"])
        self.assertEqual(parting(Program("a", [WHILE]), Program("a", [KEEP])), ["item", "no"])
        self.assertEqual(parting(Program("a", [AFTER]), Program("a", [KEEP])), ["item", "yes", "more", "item"])
        self.assertEqual(parting(Program("a", [MAP, ("gather", 2)]), Program("a", [("gather", 2), MAP])), ["item"])

    def test_lists_are_new_and_programs_stay(self):
        first, second = Program("a", [("take", 1)]), Program("a")
        parting(first, second).append("x")
        self.assertEqual(parting(first=first, second=second), ["item", "more"])
        self.assertIs(alike(first=first, second=second), False)
        self.assertEqual((first.stages, second.stages), ((("take", 1),), ()))

    def test_programs_with_many_stages(self):
        stages = [("gather", 2), KEEP, ("lots", 4), ("keep", "q"), FLAT, ("map", "f")]
        inner = Program("b", stages[:5])
        self.assert_alike(Program("a", stages), Program("a", stages))
        self.assert_alike(Program("a", [("zip", inner), ("take", 2), ("map", "f")]),
                          Program("a", [("take", 2), ("zip", inner), ("map", "f")]))
        self.assert_parted(Program("a", stages), Program("a", [("gather", 2), KEEP, ("lots", 4), FLAT, ("map", "f")]))
        takes = [KEEP, ("take", 4), ("keep", "q"), ("take", 3), ("skip", 1)]
        last = Program("c", takes)
        first = Program("a", takes + [("zip", Program("b", takes + [("zip", last)]))])
        second = Program("a", takes + [("zip", Program("b", takes + [("zip", last.then(("gather", 1)))]))])
        self.assert_alike(first, second)


class AllRowsTest(PartingTest):
    def compare(self, first, second, most):
        row = parting(first, second)
        self.assertIs(alike(first, second), row is None)
        brute = shortest_difference(first, second, (), (), most)
        if row is not None:
            self.assert_parted(first, second, len(row) if brute is None else len(brute))
        self.assertTrue(row is not None and len(row) > most or row == brute or len(row) == len(brute),
                        (first.stages, second.stages, row, brute))

    def test_programs_of_one_stage(self):
        many = list(programs(SMALL, 1))
        for first in many:
            for second in many:
                self.compare(first, second, 10)

    def test_programs_of_two_stages(self):
        many = list(programs(SMALL, 2))
        for at, first in enumerate(many):
            for second in many[at % 7::7]:
                self.compare(first, second, 8)

    def test_a_stage_left_out(self):
        for program in list(programs(SMALL, 3))[::5]:
            for position in range(len(program.stages)):
                if error_of(program.without, [position]) is None:
                    self.compare(program, program.without([position]), 6)

    def test_two_stages_exchanged(self):
        for program in list(programs(SMALL, 3))[::5]:
            for position in range(len(program.stages) - 1):
                if error_of(program.exchanged, position) is None:
                    self.compare(program, program.exchanged(position), 6)


if __name__ == "__main__":
    unittest.main()
