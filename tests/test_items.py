"""gives, items_parting and same_items of the interface, also beside all that tests can say of short lists."""

import unittest

from pulledonce.errors import HasZip
from pulledonce.forms import simplified
from pulledonce.items import gives, items_parting, same_items
from pulledonce.programs import Program
from tests.brute import programs
from tests.lists import reference_gives, reference_length
from tests.support import error_of, same

MAP, KEEP, WHILE, AFTER = ("map", "f"), ("keep", "p"), ("while", "p"), ("after", "p")
FLAT = ("flat",)
ZIP = ("zip", Program("b"))

SMALL = [
    MAP, KEEP, WHILE, AFTER, ("take", 1), ("take", 2), ("skip", 1), ("skip", 2), ("lots", 1), ("lots", 2), FLAT,
    ("gather", 2),
]

# Pairs of rows of stages that give the same items, by their making.
SAME = [
    ([], [("gather", 1)]),
    ([("gather", 2)], [("gather", 4)]),
    ([("lots", 2), FLAT], [("gather", 3)]),
    ([("lots", 4), FLAT], []),
    ([("lots", 3), ("lots", 2), FLAT, FLAT], [("gather", 2)]),
    ([("lots", 2), ("gather", 2), FLAT], [("lots", 3), FLAT]),
    ([KEEP, KEEP], [KEEP]),
    ([WHILE, KEEP], [WHILE]),
    ([KEEP, WHILE], [KEEP]),
    ([AFTER, AFTER], [AFTER]),
    ([KEEP, AFTER], [KEEP]),
    ([AFTER, KEEP], [KEEP]),
    ([KEEP, ("keep", "q")], [("keep", "q"), KEEP]),
    ([KEEP, ("keep", "q"), ("keep", "r")], [("keep", "r"), ("keep", "q"), KEEP, ("keep", "q")]),
    ([WHILE, ("while", "q")], [("while", "q"), WHILE]),
    ([MAP, ("skip", 1)], [("skip", 1), MAP]),
    ([MAP, ("take", 2)], [("take", 2), MAP]),
    ([("skip", 1), ("take", 2)], [("take", 3), ("skip", 1)]),
    ([("skip", 2), ("skip", 2)], [("skip", 4)]),
    ([("take", 3), ("take", 2)], [("take", 2)]),
    ([("take", 2), ("skip", 2)], [("take", 1), ("skip", 3), KEEP]),
    ([("skip", 2), ("lots", 2)], [("lots", 2), ("skip", 1)]),
    ([("take", 4), ("lots", 2)], [("lots", 2), ("take", 2)]),
    ([("lots", 2), ("skip", 2), FLAT], [("skip", 4)]),
    ([("lots", 4), ("lots", 2), ("skip", 1), FLAT, FLAT], [("skip", 4), ("skip", 4)]),
    ([("lots", 2), KEEP, FLAT, ("lots", 2)], [("lots", 2), KEEP]),
    ([("lots", 2), KEEP, FLAT, ("gather", 2), ("lots", 2), KEEP], [("lots", 2), KEEP, ("gather", 2)]),
    ([("lots", 4), ("lots", 2), FLAT, FLAT, KEEP, ("keep", "q")], [("keep", "q"), KEEP, ("gather", 4)]),
    ([("lots", 4), FLAT, KEEP, ("keep", "q")], [("keep", "q"), ("lots", 2), FLAT, KEEP]),
    ([("lots", 2), FLAT, KEEP, ("lots", 2), FLAT], [("gather", 3), KEEP]),
    ([("take", 4), KEEP, WHILE], [("take", 4), AFTER, KEEP]),
    ([("while", "q"), KEEP], [("while", "q"), KEEP, ("while", "q")]),
    ([("lots", 1), KEEP, FLAT, ("lots", 1)], [("lots", 1), KEEP]),
    ([("lots", 2), KEEP, ("lots", 2), ("keep", "q"), FLAT, KEEP], [("lots", 2), KEEP, ("lots", 2), ("keep", "q"), FLAT]),
    ([MAP, KEEP, ("lots", 3), ("keep", "q"), FLAT, KEEP], [MAP, KEEP, ("lots", 3), ("keep", "q"), FLAT]),
    ([("lots", 3), AFTER, FLAT, ("keep", "q"), ("keep", "r")], [("lots", 3), AFTER, FLAT, ("keep", "r"), ("keep", "q")]),
    ([("lots", 2), FLAT, ("lots", 3), FLAT, MAP], [MAP, ("gather", 4)]),
]

# Pairs of rows of stages that do not, and the least length of a list that shows it.
OTHER = [
    ([], [MAP], 1),
    ([], [KEEP], 1),
    ([], [("lots", 1)], 1),
    ([], [("take", 1)], 2),
    ([], [("take", 4)], 5),
    ([], [("skip", 1)], 1),
    ([MAP], [("map", "g")], 1),
    ([MAP], [MAP, MAP], 1),
    ([KEEP], [("keep", "q")], 1),
    ([KEEP], [WHILE], 2),
    ([KEEP], [AFTER], 2),
    ([WHILE], [AFTER], 2),
    ([KEEP, ("take", 1)], [("take", 1), KEEP], 2),
    ([KEEP, ("take", 2)], [("take", 2), KEEP], 3),
    ([KEEP, ("skip", 2)], [("skip", 2), KEEP], 3),
    ([MAP, KEEP], [KEEP, MAP], 1),
    ([("lots", 2)], [("lots", 1)], 2),
    ([("lots", 3)], [("lots", 4)], 4),
    ([("lots", 2), ("lots", 2)], [("lots", 4)], 1),
    ([("lots", 2), ("lots", 2), FLAT], [("lots", 4)], 3),
    ([("lots", 2), KEEP, FLAT], [("lots", 3), KEEP, FLAT], 3),
    ([("lots", 3), KEEP, FLAT], [("lots", 4), KEEP, FLAT], 4),
    ([("lots", 2), KEEP, FLAT], [KEEP], 1),
    ([("skip", 1), ("lots", 2)], [("lots", 2), ("skip", 1)], 2),
    ([("lots", 2), KEEP, FLAT, ("lots", 2)], [("lots", 2), FLAT, ("lots", 2)], 1),
    ([KEEP, ("lots", 2), ("skip", 1)], [("lots", 2), ("skip", 1), KEEP], 3),
    ([("skip", 4), ("skip", 1)], [("skip", 4), ("skip", 2)], 6),
    ([("lots", 4), ("lots", 2), ("skip", 1)], [("lots", 4), ("skip", 1), ("lots", 2)], 5),
    ([("lots", 4), ("lots", 2), ("skip", 1), KEEP], [("lots", 4), ("lots", 2), ("skip", 1)], 9),
    ([KEEP, ("lots", 4), ("lots", 2), ("skip", 1)], [("lots", 4), ("lots", 2), ("skip", 1)], 9),
    ([("take", 4), ("lots", 3)], [("lots", 3), ("take", 2)], 5),
    ([AFTER, WHILE], [WHILE, AFTER], 2),
    ([("while", "q"), KEEP], [KEEP, ("while", "q")], 2),
    ([("lots", 3), AFTER, FLAT, ("keep", "q")], [("keep", "q"), ("lots", 3), AFTER, FLAT], 2),
    ([("lots", 2), AFTER, FLAT, ("skip", 1)], [("skip", 1), ("lots", 2), AFTER, FLAT], 2),
    ([("lots", 2), AFTER, FLAT, ("skip", 2)], [("skip", 2), ("lots", 2), AFTER, FLAT], 3),
    ([KEEP, ("lots", 2), MAP], [MAP, KEEP, ("lots", 2)], 1),
]


def gives_of(stages, length, *no):
    return gives(Program("a", stages), length, list(no))


class GivesTest(unittest.TestCase):
    def test_each_kind_of_stage_alone(self):
        self.assertEqual(gives_of([], 3), ["a0", "a1", "a2"])
        self.assertEqual(gives_of([MAP], 2), ["f(a0)", "f(a1)"])
        self.assertEqual(gives_of([KEEP], 3, ("p", "a1")), ["a0", "a2"])
        self.assertEqual(gives_of([WHILE], 4, ("p", "a2")), ["a0", "a1"])
        self.assertEqual(gives_of([WHILE], 4, ("p", "a0")), [])
        self.assertEqual(gives_of([AFTER], 4, ("p", "a0"), ("p", "a1"), ("p", "a3")), ["a2", "a3"])
        self.assertEqual(gives_of([("take", 2)], 3), ["a0", "a1"])
        self.assertEqual(gives_of([("take", 2)], 1), ["a0"])
        self.assertEqual(gives_of([("skip", 2)], 4), ["a2", "a3"])
        self.assertEqual(gives_of([("skip", 2)], 2), [])
        self.assertEqual(gives_of([("lots", 2)], 4), ["[a0, a1]", "[a2, a3]"])
        self.assertEqual(gives_of([("lots", 2)], 5), ["[a0, a1]", "[a2, a3]", "[a4]"])
        self.assertEqual(gives_of([("gather", 4)], 2), ["a0", "a1"])
        self.assertEqual(gives_of([("gather", 2)], 5), ["a0", "a1", "a2", "a3", "a4"])

    def test_no_items(self):
        for stage in SMALL:
            if stage != FLAT:
                self.assertEqual(gives_of([stage], 0), [])
        self.assertEqual(gives_of([("lots", 2), FLAT], 0), [])

    def test_stages_behind_others(self):
        self.assertEqual(gives_of([("lots", 2), FLAT], 3), ["a0", "a1", "a2"])
        self.assertEqual(gives_of([("lots", 2), KEEP, FLAT], 5, ("p", "[a2, a3]")), ["a0", "a1", "a4"])
        self.assertEqual(gives_of([("lots", 2), KEEP, FLAT], 5, ("p", "[a4]")), ["a0", "a1", "a2", "a3"])
        self.assertEqual(gives_of([KEEP, ("lots", 2), MAP], 4, ("p", "a1")), ["f([a0, a2])", "f([a3])"])
        self.assertEqual(gives_of([("lots", 2), ("lots", 2)], 5), ["[[a0, a1], [a2, a3]]", "[[a4]]"])
        self.assertEqual(gives_of([MAP, ("keep", "f")], 3, ("f", "a0"), ("f", "f(a1)")), ["f(a0)", "f(a2)"])
        self.assertEqual(gives_of([("gather", 3), ("take", 2), ("skip", 1)], 9), ["a1"])
        self.assertEqual(gives_of([KEEP, ("gather", 2), ("while", "q")], 4, ("p", "a0"), ("q", "a3")), ["a1", "a2"])

    def test_sources(self):
        for source in "abcd":
            self.assertEqual(gives(Program(source, [MAP]), 1, []), [f"f({source}0)"])
        self.assertEqual(gives(Program("b", [KEEP]), 2, [("p", "a0"), ("p", "b1")]), ["b0"])

    def test_doubled_and_unneeded_entries(self):
        no = [("p", "a1"), ("q", "a0"), ("p", "a1"), ("p", "f(a0)"), ("p", "a9"), ("p", "b0"), ("f", "a0")]
        self.assertEqual(gives_of([KEEP, MAP], 3, *no), ["f(a0)", "f(a2)"])

    def test_what_is_handed_in_stays_and_what_is_told_is_new(self):
        program, no = Program("a", [KEEP, ("lots", 2)]), [("p", "a0"), ("p", "a0")]
        told = gives(program, 4, no)
        self.assertEqual((told, no), (["[a1, a2]", "[a3]"], [("p", "a0"), ("p", "a0")]))
        self.assertEqual(program.stages, (KEEP, ("lots", 2)))
        told.append("x")
        self.assertEqual(gives(no=no, program=program, length=4), ["[a1, a2]", "[a3]"])

    def test_long_lists(self):
        self.assertEqual(len(gives_of([KEEP, ("lots", 3), FLAT], 1000, ("p", "a999"))), 999)
        self.assertEqual(gives_of([("take", 2)], 10 ** 59), ["a0", "a1"])
        self.assertEqual(gives_of([("gather", 3), WHILE], 10 ** 59, ("p", "a1")), ["a0"])

    def test_beside_the_reference(self):
        for program in programs(SMALL, 3):
            for length in (0, 1, 4, 5):
                for no in ([], [("p", "a1"), ("p", "[a0, a1]"), ("p", "f(a2)")],
                           [("p", "a0"), ("p", "[a2]"), ("p", "a3")]):
                    self.assertEqual(gives(program, length, no), reference_gives(program, length, no), program.stages)


class PartingTest(unittest.TestCase):
    def assert_same(self, first, second):
        for one, two in ((first, second), (second, first)):
            self.assertIsNone(items_parting(one, two), (one.stages, two.stages))
            self.assertIs(same_items(one, two), True)

    def assert_other(self, first, second, length=None):
        """Both give other lists for what is told, which is as short as it can be."""
        for one, two in ((first, second), (second, first)):
            told = items_parting(one, two)
            self.assertIs(type(told), tuple, (one.stages, two.stages))
            self.assertEqual([type(part) for part in told], [int, list])
            lists = [gives(one, *told), gives(two, *told)]
            self.assertEqual(lists, [reference_gives(one, *told), reference_gives(two, *told)])
            self.assertNotEqual(lists[0], lists[1], (one.stages, two.stages, told))
            self.assertTrue(all(type(test) is tuple and len(test) == 2 for test in told[1]))
            self.assertIs(same_items(one, two), False)
            self.assertEqual(told[0], told[0] if length is None else length, (one.stages, two.stages, told))
        return told[0]

    def compare(self, first, second, most):
        length = reference_length(first, second, most)
        if items_parting(first, second) is None:
            self.assertIsNone(length, (first.stages, second.stages))
            self.assert_same(first, second)
        else:
            found = self.assert_other(first, second, length)
            self.assertTrue(length == found or found > most, (first.stages, second.stages))


def around(stages):
    """Programs that have some stages alone, and ahead of others and behind others."""
    return [
        Program("a", stages),
        Program("c", [("gather", 2)] + list(stages)),
        Program("a", [("while", "r")] + list(stages)),
        Program("a", list(stages) + [("keep", "r")]),
        Program("a", list(stages) + [("lots", 2)]),
    ]


def fits(stages):
    return len(stages) < 6


class ByTheirMakingTest(PartingTest):
    def test_programs_that_give_the_same(self):
        for left, right in SAME:
            self.assert_same(Program("a", left), Program("a", right))
            if fits(left) and fits(right):
                for first, second in zip(around(left), around(right)):
                    self.assert_same(first, second)

    def test_the_same_program(self):
        for left, right in SAME + [pair[:2] for pair in OTHER]:
            self.assert_same(Program("b", left), Program("b", tuple(left)))
            self.assert_same(Program("b", right), Program("b", tuple(right)))

    def test_programs_that_do_not(self):
        for left, right, length in OTHER:
            first, second = Program("a", left), Program("a", right)
            self.assert_other(first, second, length)
            if length <= 4:
                self.assertEqual(reference_length(first, second, length), length)
            if fits(left) and fits(right):
                for one, two in list(zip(around(left), around(right)))[:3]:
                    self.assert_other(one, two, length)

    def test_differences_at_the_end_of_a_list_alone(self):
        # Rows that are not full come at the end only, and so do their tests.
        self.assert_other(Program("a", [("lots", 4), KEEP, FLAT]), Program("a", [("lots", 4), KEEP, FLAT, KEEP]), 1)
        self.assert_same(Program("a", [("lots", 2), ("lots", 2), KEEP, FLAT, ("lots", 2)]),
                         Program("a", [("lots", 2), ("lots", 2), KEEP]))
        self.assert_other(Program("a", [("lots", 2), ("lots", 2), FLAT, KEEP]),
                          Program("a", [("lots", 2), ("lots", 2), KEEP, FLAT]), 1)
        self.assert_other(Program("a", [("lots", 3), ("take", 1)]), Program("a", [("take", 4), ("lots", 4)]), 4)
        self.assert_other(Program("a", [("gather", 4), ("lots", 3)]), Program("a", [("gather", 2), ("lots", 2)]), 3)
        self.assert_same(Program("a", [("gather", 4), ("lots", 2)]), Program("a", [("lots", 2), ("gather", 3)]))

    def test_tests_that_are_asked_earlier_by_one(self):
        late = Program("a", [("lots", 4), ("lots", 2), ("skip", 1), FLAT, FLAT, KEEP])
        self.assert_same(late, Program("a", [("skip", 4), ("skip", 4), ("gather", 2), KEEP]))
        self.assert_other(late, Program("a", [KEEP, ("skip", 4), ("skip", 4)]), 9)
        self.assert_same(Program("a", [("lots", 3), ("keep", "q"), FLAT, KEEP]),
                         Program("a", [("lots", 3), ("keep", "q"), FLAT, ("lots", 2), FLAT, KEEP]))

    def test_programs_whose_rows_differ_long_unseen(self):
        skips = [("skip", 4), ("skip", 4)]
        rows = [("lots", 4), ("lots", 2), ("keep", "q")]
        self.assert_other(Program("a", [KEEP] + rows + skips), Program("a", rows + skips), 65)
        self.assert_other(Program("a", [KEEP] + rows + skips[:1]),
                          Program("a", [("lots", 4), KEEP] + rows[1:] + skips[:1]), 33)
        self.assert_other(Program("a", [KEEP, ("lots", 2), ("lots", 4), KEEP, ("skip", 2)]),
                          Program("a", [("lots", 2), KEEP, ("lots", 4), KEEP, ("skip", 2)]), 17)


class SourcesTest(PartingTest):
    def test_other_sources(self):
        self.assert_other(Program("a"), Program("b"), 1)
        self.assert_other(Program("a", [("skip", 2)]), Program("b", [("skip", 3)]), 3)
        self.assert_other(Program("c", [("skip", 3), KEEP]), Program("d", [("take", 1), ("skip", 1)]), 4)
        self.assert_other(Program("a", [KEEP, ("lots", 2)]), Program("b", [KEEP, ("lots", 2)]), 1)

    def test_programs_that_give_nothing(self):
        for stages in ([("take", 1), ("skip", 1)], [("take", 2), ("skip", 4), MAP], [KEEP, ("take", 3), ("skip", 3)]):
            for source in "abcd":
                self.assert_same(Program("a", [("take", 2), ("skip", 2)]), Program(source, stages))
        self.assert_other(Program("a", [("take", 2), ("skip", 1)]), Program("b", [("take", 1), ("skip", 1)]), 2)


class ZipTest(unittest.TestCase):
    def assert_zip(self, position, call, *given):
        error = error_of(call, *given)
        self.assertIs(type(error), HasZip)
        self.assertTrue(same(error.position, position))

    def test_the_first_zip_is_told(self):
        plain = Program("a", [KEEP])
        for stages, position in [
            ([ZIP], 0), ([KEEP, ZIP], 1), ([ZIP, KEEP], 0), ([MAP, MAP, ZIP, ("zip", Program("c"))], 2),
            ([KEEP] * 5 + [("zip", Program("b", [("zip", Program("c"))]))], 5),
        ]:
            zipped = Program("a", stages)
            self.assert_zip(position, gives, zipped, 2, [])
            for call in (items_parting, same_items):
                self.assert_zip(position, call, zipped, plain)
                self.assert_zip(position, call, plain, zipped)
                self.assert_zip(position, call, zipped, zipped)
                self.assert_zip(position, call, zipped, Program("a", [KEEP, KEEP, KEEP, ZIP]))
                self.assert_zip(3, call, Program("a", [KEEP, KEEP, KEEP, ZIP]), zipped)


class AllTestsTest(PartingTest):
    def test_programs_of_one_stage(self):
        many = list(programs(SMALL, 1))
        for first in many:
            for second in many:
                self.compare(first, second, 4)

    def test_programs_of_two_stages(self):
        many = list(programs(SMALL, 2))
        for at, first in enumerate(many):
            for second in many[at % 11::11]:
                self.compare(first, second, 4)

    def test_a_stage_left_out(self):
        for program in list(programs(SMALL, 3))[::3]:
            for position in range(len(program.stages)):
                if error_of(program.without, [position]) is None:
                    self.compare(program, program.without([position]), 4)

    def test_two_stages_exchanged(self):
        for program in list(programs(SMALL, 3))[::3]:
            for position in range(len(program.stages) - 1):
                if error_of(program.exchanged, position) is None:
                    self.compare(program, program.exchanged(position), 4)

    def test_rows_that_are_tested(self):
        stages = [KEEP, ("keep", "q"), ("lots", 2), FLAT, ("lots", 3)]
        for program in list(programs(stages, 4))[::7]:
            for position in range(len(program.stages) - 1):
                if error_of(program.exchanged, position) is None:
                    self.compare(program, program.exchanged(position), 4)


class FormsTest(unittest.TestCase):
    def test_a_form_gives_the_same(self):
        self.assertEqual(simplified([("lots", 2), ("gather", 2), FLAT]), [])
        self.assertEqual(simplified([MAP, ("lots", 2), ("skip", 3)]), [("skip", 6), MAP, ("lots", 2)])
        self.assertEqual(simplified([("lots", 2), ("take", 3), ("skip", 1)]), [("skip", 2), ("take", 4), ("lots", 2)])
        self.assertEqual(simplified([KEEP, ("skip", 1), ("take", 4), ("take", 2)]), [KEEP, ("skip", 1), ("take", 2)])
        self.assertEqual(simplified([("take", 2), ("skip", 2)]), [("take", 2), ("skip", 2)])


class TellingTest(unittest.TestCase):
    def test_what_is_told_is_new(self):
        first, second = Program("a", [KEEP]), Program("a")
        items_parting(first, second)[1].append("x")
        self.assertEqual(items_parting(second=second, first=first), (1, [("p", "a0")]))
        self.assertIs(same_items(second=second, first=first), False)
        self.assertEqual((first.stages, second.stages), ((KEEP,), ()))


if __name__ == "__main__":
    unittest.main()
