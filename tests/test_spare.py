"""spare and places of the interface."""

import unittest
from itertools import combinations

from pulledonce.alike import alike
from pulledonce.errors import HasZip
from pulledonce.items import same_items
from pulledonce.programs import Program
from pulledonce.spare import places, spare
from tests.brute import programs, shortest_difference
from tests.lists import reference_length
from tests.support import error_of, same

MAP, KEEP, WHILE, AFTER = ("map", "f"), ("keep", "p"), ("while", "p"), ("after", "p")
FLAT = ("flat",)
SMALL = [
    MAP, KEEP, WHILE, AFTER, ("take", 1), ("take", 2), ("skip", 1), ("lots", 1), ("lots", 2), FLAT, ("gather", 1),
    ("gather", 2), ("zip", Program("b", [("take", 1)])),
]

# Stages, and what can be left out of them, in alike programs and for the items alone.
SPARE = [
    ([], [[]], [[]]),
    ([MAP], [[]], [[]]),
    ([("gather", 1)], [[0]], [[0]]),
    ([("gather", 2)], [[]], [[0]]),
    ([("take", 2), ("take", 3)], [[1]], [[1]]),
    ([("take", 3), ("take", 2), ("take", 2)], [[0, 1], [0, 2]], [[0, 1], [0, 2]]),
    ([("take", 1)] * 4, [[0, 1, 2], [0, 1, 3], [0, 2, 3], [1, 2, 3]], [[0, 1, 2], [0, 1, 3], [0, 2, 3], [1, 2, 3]]),
    ([("lots", 1), FLAT], [[0, 1]], [[0, 1]]),
    ([("lots", 2), FLAT], [[]], [[0, 1]]),
    ([("lots", 2), ("lots", 1), FLAT, FLAT], [[1, 2], [1, 3]], [[0, 1, 2, 3]]),
    ([("lots", 1), FLAT, ("lots", 1), FLAT], [[0, 1, 2, 3]], [[0, 1, 2, 3]]),
    ([("lots", 1), ("gather", 1), FLAT, MAP], [[0, 1, 2]], [[0, 1, 2]]),
    ([("lots", 2), KEEP, FLAT], [[]], [[]]),
    ([KEEP, KEEP], [[]], [[0], [1]]),
    ([KEEP, WHILE], [[]], [[1]]),
    ([WHILE, KEEP, ("keep", "q")], [[]], [[1]]),
    ([("take", 1), ("skip", 1), MAP], [[2]], [[2]]),
    ([("take", 1), ("skip", 1), KEEP, MAP, ("lots", 2)], [[2, 3, 4]], [[2, 3, 4]]),
    ([("take", 1), ("skip", 2), KEEP, ("skip", 1)], [[1, 2], [2, 3]], [[1, 2], [2, 3]]),
    ([("gather", 2), ("gather", 2), ("gather", 1)], [[2]], [[0, 1, 2]]),
    ([("skip", 1), ("take", 4), ("take", 3), ("gather", 3)], [[1]], [[1, 3]]),
    ([KEEP, ("take", 1), KEEP, ("take", 2)], [[3]], [[2, 3]]),
]

# Stages, and which may change places with the next one.
PLACES = [
    ([], [], []),
    ([MAP], [], []),
    ([MAP, MAP], [0], [0]),
    ([KEEP, KEEP, KEEP], [0, 1], [0, 1]),
    ([("lots", 2), ("lots", 2)], [0], [0]),
    ([MAP, ("take", 1)], [0], [0]),
    ([MAP, ("skip", 1)], [], [0]),
    ([MAP, KEEP], [], []),
    ([KEEP, ("keep", "q")], [], [0]),
    ([KEEP, WHILE], [], []),
    ([KEEP, AFTER], [0], [0]),
    ([("lots", 2), FLAT], [], []),
    ([("lots", 2), ("gather", 1), FLAT], [0, 1], [0, 1]),
    ([("lots", 2), ("gather", 2), FLAT], [], [0, 1]),
    ([("lots", 1), ("lots", 2), FLAT, FLAT], [0, 1, 2], [0, 1, 2]),
    ([("lots", 2), FLAT, ("lots", 2), FLAT], [], [1]),
    ([("take", 2), ("take", 3), ("skip", 1)], [0, 1], [0, 1]),
    ([("take", 2), ("take", 3), ("skip", 2), ("lots", 2)], [0, 1, 2], [0, 1, 2]),
    ([("skip", 1), ("gather", 2), ("gather", 3), MAP], [0, 1], [0, 1, 2]),
    ([("take", 2), ("skip", 2), ("skip", 1)], [1], [1]),
    ([("take", 1), ("skip", 1), MAP, KEEP], [2], [1, 2]),
]


def spare_by_the_document(program, can):
    """All sets that can be left out, and of these the greatest ones."""
    every = range(len(program.stages))
    sets = [list(row) for many in range(len(program.stages) + 1) for row in combinations(every, many)]
    good = [row for row in sets if error_of(program.without, row) is None and can(program, program.without(row))]
    return sorted(row for row in good if not any(set(row) < set(other) for other in good))


def places_by_the_document(program, can):
    return [
        at for at in range(len(program.stages) - 1)
        if error_of(program.exchanged, at) is None and can(program, program.exchanged(at))
    ]


class SpareTest(unittest.TestCase):
    def test_known_programs(self):
        for stages, expected, expected_items in SPARE:
            program = Program("a", stages)
            self.assertEqual(spare(program), expected, stages)
            self.assertEqual(spare(program, items=False), expected, stages)
            self.assertEqual(spare(program, items=True), expected_items, stages)

    def test_programs_with_zips(self):
        other = ("zip", Program("b", [("take", 2), ("take", 1)]))
        self.assertEqual(spare(Program("a", [other])), [[]])
        self.assertEqual(spare(Program("a", [other, ("take", 2)])), [[1]])
        self.assertEqual(spare(Program("a", [("gather", 1), other, ("lots", 1), FLAT])), [[0, 2, 3]])
        self.assertEqual(spare(Program("a", [("take", 1), ("skip", 1), other])), [[2]])
        self.assertEqual(spare(Program("a", [("take", 1), other, ("take", 1)])), [[0], [2]])
        self.assertEqual(spare(Program("a", [("take", 2), ("zip", Program("b")), ("take", 2)])), [[0], [2]])
        self.assertEqual(spare(Program("a", [("zip", Program("b")), FLAT, ("gather", 1)])), [[2]])

    def test_beside_the_document(self):
        for program in list(programs(SMALL, 3))[::4]:
            self.assertEqual(spare(program), spare_by_the_document(program, alike), program.stages)
            if all(stage[0] != "zip" for stage in program.stages):
                self.assertEqual(spare(program, items=True), spare_by_the_document(program, same_items), program.stages)

    def test_beside_all_replies(self):
        def can(first, second):
            return shortest_difference(first, second, (), (), 7) is None

        def can_items(first, second):
            return reference_length(first, second, 5) is None

        for program in programs(SMALL, 2):
            self.assertEqual(spare(program), spare_by_the_document(program, can), program.stages)
            self.assertEqual(places(program), places_by_the_document(program, can), program.stages)
            if all(stage[0] != "zip" for stage in program.stages):
                self.assertEqual(spare(program, items=True), spare_by_the_document(program, can_items), program.stages)
                self.assertEqual(places(program, items=True), places_by_the_document(program, can_items))

    def test_six_stages(self):
        self.assertEqual(spare(Program("a", [("take", 2), ("gather", 1)] * 3)),
                         [[0, 1, 2, 3, 5], [0, 1, 3, 4, 5], [1, 2, 3, 4, 5]])
        for many in (3, 5, 6):
            stages = [("lots", 1), FLAT, MAP, ("gather", 1), ("lots", 1), FLAT][:many]
            program = Program("a", stages)
            self.assertEqual(spare(program), spare_by_the_document(program, alike))
            self.assertEqual(spare(program, items=True), spare_by_the_document(program, same_items))

    def test_what_is_told_is_new(self):
        program = Program("a", [("take", 2), ("take", 2)])
        told = spare(program)
        told[0].append("x")
        told.append("y")
        self.assertEqual(spare(program=program), [[0], [1]])
        self.assertEqual(program.stages, (("take", 2), ("take", 2)))


class PlacesTest(unittest.TestCase):
    def test_known_programs(self):
        for stages, expected, expected_items in PLACES:
            program = Program("a", stages)
            self.assertEqual(places(program), expected, stages)
            self.assertEqual(places(program, items=False), expected, stages)
            self.assertEqual(places(program, items=True), expected_items, stages)

    def test_programs_with_zips(self):
        b, c = ("zip", Program("b")), ("zip", Program("c"))
        self.assertEqual(places(Program("a", [b, c])), [])
        self.assertEqual(places(Program("a", [("take", 2), b, c, ("gather", 1)])), [0, 2])
        self.assertEqual(places(Program("a", [b, FLAT])), [])
        self.assertEqual(places(Program("a", [("lots", 1), b, FLAT])), [])

    def test_beside_the_document(self):
        for program in list(programs(SMALL, 3))[1::4]:
            self.assertEqual(places(program), places_by_the_document(program, alike), program.stages)
            if all(stage[0] != "zip" for stage in program.stages):
                self.assertEqual(places(program, items=True), places_by_the_document(program, same_items))

    def test_what_is_told_is_new(self):
        program = Program("a", [MAP, ("take", 1)])
        places(program).append("x")
        self.assertEqual(places(program=program), [0])
        self.assertEqual(program.stages, (MAP, ("take", 1)))


class ZipTest(unittest.TestCase):
    def test_the_first_zip_is_told_with_items_alone(self):
        b, c = ("zip", Program("b")), ("zip", Program("c"))
        for stages, position in [([b], 0), ([KEEP, b], 1), ([b, KEEP, c], 0), ([("take", 2), MAP, c, b], 2)]:
            program = Program("a", stages)
            for call in (spare, places):
                error = error_of(call, program, items=True)
                self.assertIs(type(error), HasZip)
                self.assertTrue(same(error.position, position))
                self.assertIsNone(error_of(call, program))
                self.assertIsNone(error_of(call, program, items=False))

    def test_items_is_passed_by_name_alone(self):
        for call in (spare, places):
            with self.assertRaises(TypeError):
                call(Program("a"), True)


if __name__ == "__main__":
    unittest.main()
