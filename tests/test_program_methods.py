"""Class Program of the interface: then, without, exchanged and ==."""

import unittest

from pulledonce.errors import BadPositions, BadStage, BadStages
from pulledonce.programs import Program
from tests.support import any_values, error_of, same

FULL = Program("a", [("map", "f")] * 6)


def told(program):
    return (program.source, program.stages, program.sources, program.depth)


class MethodTest(unittest.TestCase):
    def assert_error(self, kind, attribute, value, call, *given):
        error = error_of(call, *given)
        self.assertIs(type(error), kind, given)
        self.assertIs(getattr(error, attribute), value)

    def assert_bad_stage(self, position, call, *given):
        error = error_of(call, *given)
        self.assertIs(type(error), BadStage, given)
        self.assertTrue(same(error.position, position), given)


class ThenTest(MethodTest):
    def test_one_more_behind_the_others(self):
        program = Program("c", [("lots", 2)])
        longer = program.then(("flat",))
        self.assertIsInstance(longer, Program)
        self.assertEqual(told(longer), ("c", (("lots", 2), ("flat",)), ("c",), 0))
        zipped = program.then(stage=("zip", Program("a", [("zip", Program("b"))])))
        self.assertEqual((zipped.sources, zipped.depth), (("c", "a", "b"), 2))

    def test_six_at_the_most(self):
        program = Program("a")
        for many in range(1, 7):
            program = program.then(("map", "f"))
            self.assertEqual(program.stages, (("map", "f"),) * many)
        error = error_of(program.then, ("keep", "p"))
        self.assertIs(type(error), BadStages)
        self.assertEqual(error.value, [("map", "f")] * 6 + [("keep", "p")])
        self.assertIs(type(error.value), list)

    def test_too_many_is_raised_ahead_of_a_bad_stage(self):
        for value in any_values():
            error = error_of(FULL.then, value)
            self.assertIs(type(error), BadStages)
            self.assertEqual((len(error.value), error.value[:6]), (7, [("map", "f")] * 6))
            self.assertIs(error.value[6], value)

    def test_the_list_in_the_error_is_new(self):
        error_of(FULL.then, ("map", "g")).value.clear()
        self.assertEqual(FULL.stages, (("map", "f"),) * 6)

    def test_any_value_that_is_no_stage(self):
        for value in any_values():
            self.assert_bad_stage(0, Program("a").then, value)
            self.assert_bad_stage(2, Program("a", [("lots", 2), ("take", 1)]).then, value)

    def test_stages_that_can_not_stand_there(self):
        program = Program("a", [("zip", Program("b", [("zip", Program("c"))])), ("map", "f")])
        for stage in [("flat",), ("zip", Program("a")), ("zip", Program("b")), ("zip", Program("c")),
                      ("zip", Program("d", [("zip", Program("c"))])), ("zip", program)]:
            self.assert_bad_stage(2, program.then, stage)
        self.assertEqual(program.then(("zip", Program("d"))).sources, ("a", "b", "c", "d"))


class WithoutTest(MethodTest):
    def test_stages_left_out(self):
        program = Program("a", [("keep", "p"), ("map", "f"), ("take", 2), ("skip", 1)])
        stages = program.stages
        for positions, left in [([], [0, 1, 2, 3]), ([0], [1, 2, 3]), ([3], [0, 1, 2]), ([1, 2], [0, 3]),
                                ([3, 0], [1, 2]), ([2, 1, 0], [3]), ([1, 3, 0, 2], [])]:
            shorter = program.without(positions)
            self.assertIsInstance(shorter, Program)
            self.assertEqual(shorter.stages, tuple([stages[at] for at in left]))
            self.assertEqual(shorter.source, "a")
        self.assertEqual(program.without(positions=[0]).stages, stages[1:])
        self.assertEqual(Program("b").without([]), Program("b"))

    def test_zips_left_out(self):
        program = Program("a", [("zip", Program("c", [("zip", Program("b"))])), ("flat",), ("zip", Program("d"))])
        shorter = program.without([0, 1])
        self.assertEqual((shorter.sources, shorter.depth), (("a", "d"), 1))
        self.assertEqual(shorter.then(("zip", Program("b"))).sources, ("a", "d", "b"))

    def test_any_value_that_is_no_list_of_positions(self):
        program = Program("a", [("map", "f"), ("map", "g"), ("map", "h")])
        right = [[], [0], [0, 1]]
        for value in any_values():
            if not any(same(value, positions) for positions in right):
                self.assert_error(BadPositions, "value", value, program.without, value)
        for value in [(0,), (0, 1), [3], [-1], [0, 3], [10 ** 59], [True], [False], [0, False], [1, True], [0, 0],
                      [0, 1, 2, 0], [2, 1, 2], ["0"], [None], [(0,)], [[0]], [0, [1]], [0, {}], [Program("a")],
                      {0: 1}, {}, "", "0", 0, range(2)]:
            self.assert_error(BadPositions, "value", value, program.without, value)
        for value in [[0], [1], [0, 1]]:
            self.assert_error(BadPositions, "value", value, Program("a").without, value)

    def test_what_would_be_no_program(self):
        program = Program("a", [("take", 1), ("lots", 2), ("keep", "p"), ("flat",), ("map", "f")])
        self.assert_bad_stage(2, program.without, [1])
        self.assert_bad_stage(1, program.without, [1, 0])
        self.assert_bad_stage(0, program.without, [2, 0, 1])
        self.assert_bad_stage(0, program.without, [2, 0, 4, 1])
        self.assertEqual(program.without([1, 3]).stages, (("take", 1), ("keep", "p"), ("map", "f")))
        twice = Program("a", [("lots", 2), ("lots", 2), ("flat",), ("flat",)])
        self.assert_bad_stage(2, twice.without, [0])
        self.assert_bad_stage(0, twice.without, [1, 0])
        zipped = Program("a", [("zip", Program("b")), ("lots", 2), ("flat",), ("flat",)])
        self.assert_bad_stage(2, zipped.without, [0])

    def test_the_list_is_not_changed_and_not_kept(self):
        program = Program("a", [("map", "f"), ("map", "g")])
        positions = [1, 0]
        program.without(positions)
        self.assertEqual(positions, [1, 0])
        wrong = [5]
        error = error_of(program.without, wrong)
        wrong.append(6)
        self.assertEqual(error.value, [5, 6])


class ExchangedTest(MethodTest):
    def test_neighbours_changed(self):
        program = Program("b", [("keep", "p"), ("map", "f"), ("lots", 2), ("skip", 1)])
        keep, maps, lots, skip = program.stages
        self.assertEqual(program.exchanged(0).stages, (maps, keep, lots, skip))
        self.assertEqual(program.exchanged(1).stages, (keep, lots, maps, skip))
        self.assertEqual(program.exchanged(position=2).stages, (keep, maps, skip, lots))
        self.assertEqual((program.exchanged(1).source, program.exchanged(1).depth), ("b", 0))
        self.assertIsInstance(program.exchanged(0), Program)

    def test_sources_change_places_with_zips(self):
        program = Program("a", [("zip", Program("d")), ("zip", Program("c", [("zip", Program("b"))]))])
        self.assertEqual(program.exchanged(0).sources, ("a", "c", "b", "d"))

    def test_any_value_that_is_no_position_with_a_next_one(self):
        program = Program("a", [("map", "f"), ("map", "g")])
        for value in any_values() + [2, -2]:
            if not same(value, 0):
                self.assert_error(BadPositions, "value", value, program.exchanged, value)
        for short in (Program("a"), Program("a", [("map", "f")])):
            for value in any_values():
                self.assert_error(BadPositions, "value", value, short.exchanged, value)

    def test_what_would_be_no_program(self):
        program = Program("a", [("take", 1), ("lots", 2), ("flat",), ("map", "f")])
        self.assert_bad_stage(1, program.exchanged, 1)
        self.assertEqual(program.exchanged(0).stages, (("lots", 2), ("take", 1), ("flat",), ("map", "f")))
        mapped = Program("a", [("lots", 2), ("map", "f"), ("lots", 2), ("flat",)])
        self.assert_bad_stage(2, mapped.exchanged, 2)
        self.assert_bad_stage(3, mapped.exchanged, 1)
        zipped = Program("a", [("zip", Program("b")), ("lots", 2), ("flat",), ("flat",)])
        self.assert_bad_stage(3, zipped.exchanged, 0)


class OldProgramTest(unittest.TestCase):
    def test_it_stays_as_it_was(self):
        program = Program("a", [("zip", Program("b")), ("lots", 2), ("flat",), ("flat",)])
        before = told(program)
        for call, given in [(program.then, ("map", "f")), (program.then, None), (program.without, [3]),
                            (program.without, [0]), (program.without, [9]), (program.exchanged, 0),
                            (program.exchanged, 2), (program.exchanged, 9)]:
            error_of(call, given)
            self.assertEqual(told(program), before)


class EqualTest(unittest.TestCase):
    def assert_equal(self, first, second, answer):
        self.assertIs(first == second, answer)
        self.assertIs(second == first, answer)
        self.assertIs(first != second, not answer)
        self.assertIs(second != first, not answer)

    def test_equal_programs(self):
        for make in [
            lambda: Program("a"),
            lambda: Program("b", [("map", "f"), ("take", 2)]),
            lambda: Program("a", [("lots", 2), ("flat",)]),
            lambda: Program("a", [("zip", Program("b", [("zip", Program("c")), ("keep", "p")]))]),
        ]:
            self.assert_equal(make(), make(), True)
        program = Program("a", [("skip", 1)])
        self.assert_equal(program, program, True)

    def test_given_as_a_list_or_a_tuple(self):
        stages = [("map", "f"), ("zip", Program("b", ()))]
        self.assert_equal(Program("a", stages), Program("a", tuple(stages)), True)
        self.assert_equal(Program("a", []), Program("a"), True)
        self.assert_equal(Program("a").then(("take", 1)), Program("a", [("take", 1)]), True)

    def test_other_programs(self):
        others = [
            Program("a"), Program("b"), Program("a", [("map", "f")]), Program("a", [("map", "g")]),
            Program("a", [("keep", "f")]), Program("a", [("take", 1)]), Program("a", [("take", 2)]),
            Program("a", [("skip", 1)]), Program("a", [("map", "f"), ("map", "g")]),
            Program("a", [("map", "g"), ("map", "f")]), Program("a", [("zip", Program("b"))]),
            Program("a", [("zip", Program("c"))]), Program("a", [("zip", Program("b", [("take", 1)]))]),
            Program("c", [("zip", Program("b"))]), Program("a", [("zip", Program("b", [("zip", Program("c"))]))]),
            Program("a", [("zip", Program("b", [("zip", Program("d"))]))]),
        ]
        for at, first in enumerate(others):
            for second in others[at + 1:]:
                self.assert_equal(first, second, False)

    def test_values_that_are_no_programs(self):
        for value in any_values() + [("a", ()), ["a", []], "a", object(), Program]:
            if not isinstance(value, Program):
                self.assert_equal(Program("a"), value, False)

    def test_inside_lists_and_tuples(self):
        self.assertEqual([Program("a")], [Program("a")])
        self.assertIn(Program("b"), (None, "b", Program("b")))
        self.assertNotIn(Program("b"), (None, "b", Program("c")))


if __name__ == "__main__":
    unittest.main()
