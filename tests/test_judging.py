"""loop_parting and is_loop_of of the interface."""

import random
import unittest

from pulledonce.errors import BadLoop
from pulledonce.judging import is_loop_of, loop_parting
from pulledonce.loops import is_loop, run_loop
from pulledonce.making import made
from pulledonce.programs import Program
from tests.brute import drawn_program, loop_difference, many_stages, programs, weight
from tests.reference import reference_events
from tests.support import any_values, error_of
from tests.test_alike import ALIKE, UNLIKE
from tests.test_making import EACH_KIND, HEAVY

MAP, KEEP, WHILE, AFTER = ("map", "f"), ("keep", "p"), ("while", "p"), ("after", "p")
FLAT = ("flat",)
PROGRAM = Program("a", [KEEP, MAP])
OTHERS = {"a": "b", "f": "g", "p": "q", "ask": "end", "give": "test"}


def changed_values(value, many):
    """Values in which one part of a state is another one."""
    if isinstance(value, tuple):
        for at, part in enumerate(value):
            for other in changed_values(part, many):
                yield value[:at] + (other,) + value[at + 1:]
        if value == () or isinstance(value[0], tuple):
            yield value + ((0, 1),)
            yield value[1:]
    elif isinstance(value, int):
        yield from [other for other in (value - 1, value + 1, (value + 2) % many) if other >= 0]
    else:
        yield OTHERS.get(value, "a")


def changed_loops(loop):
    """Loops in which one part of one state is another one, or two states are exchanged, or one stands twice."""
    for at, state in enumerate(loop):
        for other in changed_values(state, len(loop)):
            yield loop[:at] + [other] + loop[at + 1:]
        yield loop[:at] + [loop[at - 1]] + loop[at + 1:]
        if at > 0:
            yield loop[:at - 1] + [loop[at], loop[at - 1]] + loop[at + 1:]


class JudgingTest(unittest.TestCase):
    def assert_loop_of(self, program, loop):
        self.assertIsNone(loop_parting(program, loop), (program.stages, loop))
        self.assertIs(is_loop_of(program, loop), True)

    def assert_parted(self, program, loop, length=None):
        """The row can come on both sides, and other events show behind its last reply alone."""
        row = loop_parting(program, loop)
        self.assertIs(type(row), list, (program.stages, loop))
        events = [reference_events(program, row), run_loop(loop, row)]
        self.assertEqual(events[0][:-1], events[1][:-1])
        self.assertNotEqual(events[0][-1], events[1][-1])
        self.assertIs(is_loop_of(program, loop), False)
        self.assertEqual(len(row), len(row) if length is None else length, (program.stages, loop, row))
        return len(row)

    def judge(self, program, loop, most):
        """Any value beside all rows of replies up to a length."""
        if not is_loop(loop):
            self.assertIs(is_loop_of(program, loop), False)
            error = error_of(loop_parting, program, loop)
            self.assertIs(type(error), BadLoop)
            self.assertIs(error.value, loop)
        elif loop_parting(program, loop) is None:
            self.assert_loop_of(program, loop)
            self.assertIsNone(loop_difference(program, loop, most), (program.stages, loop))
        else:
            length = self.assert_parted(program, loop)
            row = loop_difference(program, loop, min(length, most))
            self.assertEqual(len(row or []), length if length <= most else 0, (program.stages, loop))


class LoopsOfTest(JudgingTest):
    def test_loops_that_are_made(self):
        for stages in EACH_KIND + HEAVY:
            self.assert_loop_of(Program("a", stages), made(Program("a", stages)))

    def test_loops_of_alike_programs(self):
        for left, right in ALIKE:
            first, second = Program("a", left), Program("a", right)
            for one, two in ((first, second), (second, first)):
                if weight(two) <= 12:
                    self.assert_loop_of(one, made(two))
                    self.assert_parted(Program("b", left), made(two), 0)

    def test_loops_of_programs_that_differ_a_little(self):
        for left, right in UNLIKE:
            first, second = Program("a", left), Program("a", right)
            for one, two in ((first, second), (second, first)):
                if weight(two) <= 12:
                    self.judge(one, made(two), 6)
                    self.assertIs(is_loop_of(one, made(two)), False)

    def test_other_sources(self):
        zipped = Program("a", [("zip", Program("b"))])
        self.assert_parted(zipped, made(Program("a", [("zip", Program("c"))])), 1)
        self.assert_parted(zipped, made(Program("a")), 1)
        self.assert_parted(Program("b", [("zip", Program("a"))]), made(zipped), 0)
        self.assert_parted(zipped, [("end",)], 0)

    def test_loops_written_by_hand(self):
        end = ("end",)
        loop = [("ask", "a", 7, (1, ()), (2, ())), ("give", 7, (0, ())), end]
        self.assert_loop_of(Program("a"), loop)
        self.assert_loop_of(Program("a", [("gather", 1)]), loop)
        self.assert_parted(Program("a", [("take", 2)]), loop, 4)
        twice = [("ask", "a", 0, (1, ()), (3, ())), ("test", "p", 0, (2, ()), (0, ())), ("test", "p", 0, (4, ()), (3, ())),
                 end, ("give", 0, (0, ()))]
        # The second test has the reply of the first one: its other way is never gone.
        self.assert_loop_of(Program("a", [KEEP, KEEP]), twice)
        self.assert_loop_of(Program("a", [KEEP, WHILE]), twice)
        self.assert_parted(Program("a", [KEEP]), twice, 2)
        self.assert_parted(Program("a", [WHILE, KEEP]), twice, 2)

    def test_a_source_that_is_asked_again_behind_its_end(self):
        loop = [("ask", "a", 0, (1, ()), (0, ())), ("give", 0, (0, ()))]
        self.assert_parted(Program("a"), loop, 1)
        ends = [("ask", "a", 0, (1, ()), (2, ())), ("give", 0, (0, ())), ("ask", "a", 0, (2, ()), (3, ())), ("end",)]
        self.assert_parted(Program("a"), ends, 1)

    def test_items_in_other_sequence(self):
        swapped = [("ask", "a", 0, (1, ()), (3, ())), ("ask", "a", 1, (2, ()), (4, ())), ("give", (1, 0), (0, ())),
                   ("end",), ("give", (0,), (3, ()))]
        self.assert_parted(Program("a", [("lots", 2)]), swapped, 2)
        right = swapped[:2] + [("give", (0, 1), (0, ()))] + swapped[3:]
        self.assert_loop_of(Program("a", [("lots", 2)]), right)
        again = swapped[:2] + [("give", (0, 0), (0, ()))] + swapped[3:]
        self.assert_parted(Program("a", [("lots", 2)]), again, 2)

    def test_results_and_what_they_are_of(self):
        loop = [("ask", "a", 0, (1, ()), (3, ())), ("call", "f", 0, 1, (2, ())), ("give", 1, (0, ())), ("end",)]
        self.assert_loop_of(Program("a", [MAP]), loop)
        self.assert_parted(Program("a", [MAP]), loop[:2] + [("give", 0, (0, ()))] + loop[3:], 2)
        self.assert_parted(Program("a", [MAP]), loop[:2] + [("give", (1,), (0, ()))] + loop[3:], 2)
        self.assert_parted(Program("a", [MAP]), loop[:1] + [("call", "f", (0,), 1, (2, ()))] + loop[2:], 1)
        self.assert_parted(Program("a", [MAP, ("map", "g")]), loop, 2)

    def test_registers_that_hold_what_never_shows_again(self):
        old = ((1, 0), (2, 1), (3, 2), (4, 3), (5, 4))
        start = [("ask", "a", 0, (at + 1, ((at + 1, 0),)), (7, ())) for at in range(5)]
        # All items so far move on from register to register, and the last one alone shows.
        loop = start + [("ask", "a", 0, (6, ()), (7, ())), ("give", 0, (5, old)), ("end",)]
        self.assert_loop_of(Program("a", [("skip", 4), ("skip", 1)]), loop)
        shows = loop[:6] + [("give", 5, (5, old))] + loop[7:]
        self.assert_parted(Program("a", [("skip", 4), ("skip", 1)]), shows, 6)
        late = loop[:6] + [("give", 0, (8, ())), ("end",), ("ask", "a", 9, (9, ()), (7, ())), ("give", 9, (10, ())),
                           ("ask", "a", 9, (11, ()), (7, ())), ("give", 4, (7, ()))]
        self.assert_parted(Program("a", [("skip", 4), ("skip", 1)]), late, 10)

    def test_registers_that_are_filled_in_many_ways(self):
        # Behind each "no" another register has the first item, which does not show from there.
        loop = []
        for at in range(8):
            loop.append(("ask", "a", at, (2 * at + 1, ()), (17 + at, ())))
            loop.append(("test", "p", at, (2 * at + 2, ()), (2 * at, ((8 + at, 0),))))
        loop.append(("give", ((0, 1, 2, 3), (4, 5, 6, 7)), (0, ((19, 0),))))
        loop.append(("end",))
        for many in range(1, 8):
            row = tuple(range(many))
            loop.append(("give", (row[:4], row[4:]) if many > 4 else (row,), (17, ())))
        program = Program("a", [KEEP, ("lots", 4), ("lots", 2)])
        self.assert_loop_of(program, loop)
        self.assert_parted(program, loop[:-1] + [("give", ((0, 1, 2, 3), (4, 5, 0)), (17, ()))], 15)
        self.assert_parted(program.then(("gather", 2)), loop, 16)

    def test_states_that_no_way_comes_to(self):
        loop = made(PROGRAM)
        self.assert_loop_of(PROGRAM, loop + [("give", 9, (0, ((3, 4),)))])
        self.assert_loop_of(PROGRAM, loop + [("ask", "d", 9, (len(loop), ()), (0, ()))] * 3)
        self.assert_loop_of(PROGRAM, loop + [("end",)] * (400 - len(loop)))
        self.assertIs(is_loop_of(PROGRAM, loop + [("end",)] * (401 - len(loop))), False)


class ChangedTest(JudgingTest):
    def test_loops_with_one_part_changed(self):
        for stages in ([KEEP, MAP], [("lots", 2)], [("gather", 2), WHILE], [AFTER, ("skip", 1)], [("lots", 2), KEEP, FLAT],
                       [("zip", Program("b", [KEEP]))], [("take", 2), MAP]):
            program = Program("a", stages)
            loop = made(program)
            results = {}
            for other in changed_loops(loop):
                self.judge(program, other, 5)
                kind = is_loop(other) + is_loop_of(program, other)
                results[kind] = results.get(kind, 0) + 1
            # Some are no loops, some loops of others, some still loops of the program.
            self.assertEqual(sorted(results), [0, 1, 2])

    def test_drawn_loops(self):
        draw = random.Random(6)
        many = 0
        while many < 60:
            program = drawn_program(draw)
            if weight(program) > 12 or many_stages(program) > 8:
                continue
            loop = made(program)
            self.assert_loop_of(program, loop)
            for other in draw.sample(list(changed_loops(loop)), 10):
                self.judge(program, other, 4)
            many += 1

    def test_programs_beside_loops_of_others(self):
        small = [MAP, KEEP, WHILE, AFTER, ("take", 1), ("skip", 1), ("lots", 2), FLAT, ("gather", 2)]
        many = list(programs(small, 2))
        loops = [made(program) for program in many]
        for at, program in enumerate(many):
            for loop in loops[at % 5::5]:
                self.judge(program, loop, 5)


class ValuesTest(JudgingTest):
    def test_any_values_that_are_no_loops(self):
        values = any_values() + [tuple(made(PROGRAM)), made(PROGRAM)[1:], [("give", 0, (0, ()))], [("end",)] * 401, [[]]]
        for value in values:
            for program in (PROGRAM, Program("b")):
                self.judge(program, value, 0)
                self.assertIs(is_loop(value), False)

    def test_what_is_handed_in_stays_and_what_is_told_is_new(self):
        loop = [("ask", "a", 0, (1, ()), (2, ())), ("give", 0, (0, ())), ("end",)]
        told = loop_parting(PROGRAM, loop)
        self.assertEqual(told, ["item"])
        told.append("x")
        self.assertEqual(loop_parting(value=loop, program=PROGRAM), ["item"])
        self.assertIs(is_loop_of(value=loop, program=PROGRAM), False)
        self.assertEqual(loop, [("ask", "a", 0, (1, ()), (2, ())), ("give", 0, (0, ())), ("end",)])
        self.assertEqual(PROGRAM.stages, (KEEP, MAP))


if __name__ == "__main__":
    unittest.main()
