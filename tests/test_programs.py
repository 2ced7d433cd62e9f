"""Points [1] to [3]: which programs there are, and what they tell of themselves."""

import unittest

from pulledonce import programs
from pulledonce.errors import BadSource, BadStage, BadStages
from pulledonce.programs import Program
from tests.support import any_values, error_of, nested, same

RIGHT_STAGES = (
    [(kind, name) for kind in ("map", "keep", "while", "after")
     for name in ("f", "z", "a", "keep", "abcdefgh", "zzzzzzzz")]
    + [(kind, n) for kind in ("take", "skip", "lots", "gather") for n in (1, 2, 3, 4)]
    + [("zip", Program("b")), ("zip", Program("c", [("lots", 2), ("zip", Program("d"))]))]
)

WRONG_NAMES = [
    "", "abcdefghi", "F", "fF", "f1", "1", "f ", " f", "f\n", "\n", "f_", "f-g", "f.g", "f(", "`", "{", "~",
    "a" * 60, None, True, 1, ("f",), ["f"], {"f": 1}, Program("b"),
]

WRONG_NUMBERS = [
    0, 5, -1, -2, 10 ** 59, True, False, None, "1", "", "f", (1,), [1], {1: 1}, Program("b"),
]

WRONG_FORMS = [
    (), ("flat", "f"), ("flat", 1), ("flat", None), ("flat", ()), ("map",), ("keep",), ("take",), ("lots",), ("zip",),
    ("map", "f", "g"), ("map", "f", None), ("take", 1, 1), ("gather", 2, ()), ("zip", Program("b"), Program("c")),
    ("zip", Program("b"), None), ("zip", "b"), ("zip", None), ("zip", ("b", ())), ("zip", ["b"]), ("zip", 1),
    ("zip", ("zip", Program("b"))), ("zip", BadSource("b")),
    ("zips", Program("b")), ("Zip", Program("b")), ("", Program("b")), (None, Program("b")), (Program("b"), Program("c")),
    ("flat", Program("b")), ("a", Program("b")),
    ["map", "f"], ["flat"], ["take", 1], ["zip", Program("b")], {"map": "f"}, "map", "flat", "mf", "", None, 1, True,
    Program("b"), ("Map", "f"), ("map ", "f"), ("filter", "p"), ("", "f"), ("drop", 1), (1, "take"), ("f", "map"),
    (None, "f"), (True, 1), ([], "f"), (["map"], "f"), ({}, 1), (("map",), "f"), (Program("b"), "f"), (("flat",),),
    ([],), ({},), (None,), ("Flat",), ("flats",), (Program("b"),), (nested(lambda value: [value], 30),),
]


class SourceTest(unittest.TestCase):
    def test_right_sources(self):
        for source in ("a", "b", "c", "d"):
            self.assertEqual(Program(source).source, source)

    def test_any_other_value_is_a_bad_source(self):
        for value in any_values():
            if isinstance(value, str) and value in ("a", "b", "c", "d"):
                continue
            error = error_of(Program, value)
            self.assertIs(type(error), BadSource, value)
            self.assertIs(error.value, value)

    def test_it_is_raised_ahead_of_the_others(self):
        for stages in (None, [None], [("flat",)], [("map", "f")] * 7):
            self.assertIs(type(error_of(Program, "e", stages)), BadSource)


class StagesTest(unittest.TestCase):
    def test_any_value_that_is_no_list_or_tuple(self):
        for value in any_values():
            if isinstance(value, (list, tuple)):
                continue
            error = error_of(Program, "a", value)
            self.assertIs(type(error), BadStages, value)
            self.assertIs(error.value, value)

    def test_a_list_or_tuple_of_any_values(self):
        for value in any_values():
            if isinstance(value, (list, tuple)) and len(value) > 0:
                error = error_of(Program, "a", value)
                self.assertIs(type(error), BadStage, value)
                self.assertEqual(error.position, 0)

    def test_at_most_six(self):
        for many in range(7):
            stages = [("map", "f")] * many
            self.assertEqual(Program("a", stages).stages, tuple(stages))
            self.assertEqual(Program("a", tuple(stages)).stages, tuple(stages))
        for stages in ([("map", "f")] * 7, (("map", "f"),) * 7, [("map", "f")] * 20):
            error = error_of(Program, "a", stages)
            self.assertIs(type(error), BadStages)
            self.assertIs(error.value, stages)

    def test_too_many_is_raised_ahead_of_a_bad_stage(self):
        for stages in ([None] * 7, [("flat",)] * 7, (("map", "f"),) * 6 + (None,)):
            error = error_of(Program, "a", stages)
            self.assertIs(type(error), BadStages)
            self.assertIs(error.value, stages)

    def test_left_out(self):
        self.assertEqual(Program("c").stages, ())
        self.assertEqual(Program("c", []).stages, ())
        self.assertEqual(Program(source="c", stages=()).stages, ())

    def test_by_name(self):
        program = Program(stages=[("take", 2)], source="d")
        self.assertEqual((program.source, program.stages), ("d", (("take", 2),)))
        self.assertIs(type(error_of(Program, source=1)), BadSource)
        self.assertIs(type(error_of(Program, source="a", stages=1)), BadStages)


class StageTest(unittest.TestCase):
    def assert_bad_stage(self, stages, position):
        for given in (list(stages), tuple(stages)):
            error = error_of(Program, "a", given)
            self.assertIs(type(error), BadStage, given)
            self.assertTrue(same(error.position, position), given)

    def test_right_stages(self):
        for stage in RIGHT_STAGES:
            self.assertEqual(Program("a", [stage]).stages, (stage,))
            self.assertEqual(Program("a", [("skip", 1), stage]).stages, (("skip", 1), stage))
        self.assertEqual(Program("a", [("lots", 1), ("flat",)]).stages, (("lots", 1), ("flat",)))

    def test_wrong_forms(self):
        for stage in WRONG_FORMS:
            self.assert_bad_stage([stage], 0)
            self.assert_bad_stage([("lots", 2), stage], 1)

    def test_wrong_names(self):
        for kind in ("map", "keep", "while", "after"):
            for name in WRONG_NAMES:
                self.assert_bad_stage([(kind, name)], 0)

    def test_wrong_numbers(self):
        for kind in ("take", "skip", "lots", "gather"):
            for number in WRONG_NUMBERS:
                self.assert_bad_stage([(kind, number)], 0)

    def test_zips_of_no_program(self):
        for value in any_values():
            if not isinstance(value, Program):
                self.assert_bad_stage([("zip", value)], 0)

    def test_any_values_as_stages(self):
        for value in any_values():
            self.assert_bad_stage([("map", "f"), value], 1)

    def test_the_first_one_at_fault_is_told(self):
        right = ("map", "f")
        self.assert_bad_stage([right, None, None], 1)
        self.assert_bad_stage([right, right, right, right, right, ("map", "F")], 5)
        self.assert_bad_stage([right, ("flat",), None], 1)
        self.assert_bad_stage([right, None, ("flat",)], 1)
        self.assert_bad_stage([right, ("zip", Program("a")), None], 1)
        self.assert_bad_stage([right, ("flat",), ("zip", Program("a"))], 1)
        self.assert_bad_stage([("zip", Program("b")), ("zip", Program("b")), ("zip", Program("a"))], 1)

    def test_flat_stands_behind_a_depth_only(self):
        for before in [("map", "f"), ("keep", "p"), ("while", "p"), ("after", "p"), ("take", 1), ("skip", 2),
                       ("gather", 3)]:
            self.assert_bad_stage([before, ("flat",)], 1)
            self.assertEqual(Program("a", [("lots", 2), before]).depth, 0 if before[0] == "map" else 1)
        self.assert_bad_stage([("flat",)], 0)
        self.assert_bad_stage([("lots", 2), ("flat",), ("flat",)], 2)
        self.assert_bad_stage([("lots", 2), ("lots", 2), ("map", "f"), ("flat",)], 3)
        self.assert_bad_stage([("lots", 2), ("lots", 2), ("flat",), ("flat",), ("flat",)], 4)
        self.assert_bad_stage([("lots", 2), ("zip", Program("b")), ("flat",), ("flat",)], 3)
        self.assert_bad_stage([("lots", 2), ("lots", 2), ("zip", Program("b", [("lots", 1)])),
                               ("flat",), ("flat",), ("flat",)], 5)

    def test_sources_stand_once(self):
        b, c = ("zip", Program("b")), ("zip", Program("c"))
        b_with_c = ("zip", Program("b", [c]))
        b_with_a = ("zip", Program("b", [("take", 1), ("zip", Program("a"))]))
        deep = ("zip", Program("b", [("zip", Program("c", [("zip", Program("d"))]))]))
        self.assert_bad_stage([("zip", Program("a"))], 0)
        self.assert_bad_stage([b_with_a], 0)
        self.assert_bad_stage([b, ("map", "f"), b], 2)
        self.assert_bad_stage([b_with_c, c], 1)
        self.assert_bad_stage([c, b_with_c], 1)
        self.assert_bad_stage([b, c, ("zip", Program("d")), b], 3)
        self.assert_bad_stage([deep, ("zip", Program("d"))], 1)
        self.assert_bad_stage([("zip", Program("d", [b])), b_with_c], 1)
        self.assertEqual(Program("a", [b, c, ("zip", Program("d"))]).sources, ("a", "b", "c", "d"))


class TellsTest(unittest.TestCase):
    def test_depths(self):
        b, lots_of_b = Program("b"), Program("b", [("lots", 2), ("lots", 3)])
        for stages, depth in [
            ([], 0),
            ([("map", "f")], 0),
            ([("lots", 4)], 1),
            ([("lots", 1)] * 6, 6),
            ([("lots", 2), ("map", "f")], 0),
            ([("lots", 2), ("lots", 2), ("map", "f"), ("lots", 2)], 1),
            ([("lots", 2), ("keep", "p"), ("while", "p"), ("after", "p"), ("take", 1), ("skip", 1)], 1),
            ([("lots", 2), ("gather", 2)], 1),
            ([("lots", 2), ("flat",)], 0),
            ([("lots", 2), ("lots", 2), ("lots", 2), ("flat",)], 2),
            ([("zip", b)], 1),
            ([("zip", b), ("flat",)], 0),
            ([("lots", 2), ("zip", b)], 1),
            ([("lots", 2), ("lots", 2), ("zip", b)], 1),
            ([("zip", lots_of_b)], 1),
            ([("lots", 2), ("zip", lots_of_b)], 2),
            ([("lots", 2)] * 2 + [("zip", lots_of_b)], 3),
            ([("lots", 2)] * 3 + [("zip", lots_of_b)], 3),
            ([("lots", 2)] * 3 + [("zip", lots_of_b), ("flat",)], 2),
        ]:
            self.assertTrue(same(Program("a", stages).depth, depth), stages)

    def test_sources(self):
        d = Program("d")
        c = Program("c", [("zip", d)])
        b = Program("b", [("map", "f"), ("zip", c)])
        self.assertEqual(Program("a", [("zip", b)]).sources, ("a", "b", "c", "d"))
        self.assertEqual(Program("a", [("zip", d), ("take", 1), ("zip", Program("b"))]).sources, ("a", "d", "b"))
        self.assertEqual(Program("b", [("zip", c), ("zip", Program("a"))]).sources, ("b", "c", "d", "a"))
        self.assertEqual(Program("d", [("lots", 2), ("flat",)]).sources, ("d",))

    def test_stages_are_a_tuple_of_what_was_given(self):
        zipped = Program("b", [("take", 2)])
        given = [("keep", "p"), ("lots", 3), ("zip", zipped), ("flat",)]
        program = Program("a", given)
        self.assertIs(type(program.stages), tuple)
        self.assertEqual(program.stages, tuple(given))
        self.assertIs(type(program.sources), tuple)
        self.assertEqual(program.stages[2][1].stages, (("take", 2),))

    def test_what_is_handed_in_may_change_afterwards(self):
        given = [("lots", 2), ("flat",)]
        program = Program("a", given)
        given[0] = None
        given.append(("zip", Program("b")))
        self.assertEqual(program.stages, (("lots", 2), ("flat",)))
        self.assertEqual((program.sources, program.depth), (("a",), 0))

    def test_what_is_handed_in_is_not_changed(self):
        for given in ([("lots", 2), ("zip", Program("b")), ("flat",)], [("lots", 2), ("flat",), ("flat",)]):
            copy = list(given)
            error_of(Program, "a", given)
            self.assertEqual(given, copy)

    def test_they_are_properties_of_the_class_itself(self):
        for name in ("source", "stages", "sources", "depth"):
            self.assertIs(type(vars(Program)[name]), property)
            with self.assertRaises(AttributeError):
                setattr(Program("a"), name, "b")
        for name in ("__init__", "__eq__", "then", "without", "exchanged"):
            self.assertIn(name, vars(Program))
        self.assertEqual(Program.__module__, programs.__name__)


if __name__ == "__main__":
    unittest.main()
