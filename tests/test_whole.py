"""What the parts of the package tell of one and the same program goes together."""

import random
import unittest

from pulledonce.alike import alike, parting
from pulledonce.held import most_held
from pulledonce.items import gives, items_parting, same_items
from pulledonce.judging import is_loop_of, loop_parting
from pulledonce.loops import run_loop
from pulledonce.making import made
from pulledonce.programs import Program
from pulledonce.spare import places, spare
from pulledonce.texts import program_text, read_program
from pulledonce.walks import Walk, run
from pulledonce.ways import reaches, way_to
from tests.brute import drawn_program, drawn_row, many_stages, programs, room, weight
from tests.support import error_of
from tests.test_alike import ALIKE, UNLIKE

SMALL = [
    ("map", "f"), ("keep", "p"), ("while", "p"), ("after", "p"), ("take", 2), ("skip", 1), ("lots", 2), ("flat",),
    ("gather", 2), ("zip", Program("b", [("take", 1)])),
]


def has_zip(program):
    return any(stage[0] == "zip" for stage in program.stages)


def can_be_made(program):
    return weight(program) <= 12 and many_stages(program) <= 8 and room(program) <= 8


def drawn_programs(seed, many):
    """So many programs of which a loop can be made."""
    draw = random.Random(seed)
    found = []
    while len(found) < many:
        program = drawn_program(draw)
        if can_be_made(program):
            found.append(program)
    return found


class WholeTest(unittest.TestCase):
    def assert_together(self, first, second):
        """Two programs: whether they are alike shows in all that is told of them."""
        row = parting(first, second)
        self.assertIs(alike(first, second), row is None)
        self.assertIs(Walk(first).like(Walk(second)), row is None)
        if can_be_made(second):
            self.assertIs(is_loop_of(first, made(second)), row is None)
            other = loop_parting(first, made(second))
            self.assertEqual(other if other is None else len(other), row if row is None else len(row))
        if not has_zip(first) and not has_zip(second):
            told = items_parting(first, second)
            self.assertIs(same_items(first, second), told is None)
            if row is None:
                self.assertIsNone(told)
            if told is not None:
                self.assertNotEqual(gives(first, *told), gives(second, *told))

    def test_pairs_of_programs(self):
        for left, right in ALIKE + UNLIKE:
            self.assert_together(Program("a", left), Program("a", right))
            self.assert_together(Program("c", right), Program("c", left))

    def test_short_programs_beside_each_other(self):
        many = list(programs(SMALL, 2))
        for at, first in enumerate(many):
            for second in many[at % 6::6]:
                self.assert_together(first, second)

    def test_stages_left_out_and_exchanged(self):
        for program in drawn_programs(11, 60) + list(programs(SMALL, 2)):
            for positions in spare(program):
                left = program.without(positions)
                self.assert_together(program, left)
                self.assertIs(alike(program, left), True)
                for position in range(len(left.stages)):
                    if error_of(left.without, [position]) is None and alike(program, left.without([position])):
                        self.fail((program.stages, positions, position))
            for position in range(len(program.stages) - 1):
                if error_of(program.exchanged, position) is None:
                    self.assert_together(program, program.exchanged(position))
                    self.assertIs(alike(program, program.exchanged(position)), position in places(program))
                else:
                    self.assertNotIn(position, places(program))

    def test_items_and_likeness(self):
        for program in drawn_programs(12, 200):
            if not has_zip(program):
                # What is alike gives the same items, too.
                for positions in spare(program):
                    self.assertTrue(any(set(positions) <= set(more) for more in spare(program, items=True)))
                self.assertLessEqual(set(places(program)), set(places(program, items=True)))

    def test_one_program(self):
        draw = random.Random(13)
        for program in drawn_programs(14, 150):
            again = read_program(program_text(program))
            self.assertEqual(again, program)
            self.assert_together(program, again)
            loop = made(program)
            held_row = most_held(program)[1]
            for row in [held_row, drawn_row(program, 30, draw), drawn_row(program, 30, draw)]:
                events = run(program, row)
                self.assertEqual(run_loop(loop, row), events)
                walk = Walk(program)
                for word in row:
                    walk.reply(word)
                self.assertEqual(walk.events, events)
                self.assertIs(walk.like(walk.fork()), True)

    def test_events_of_rows_can_be_reached(self):
        draw = random.Random(15)
        for program in drawn_programs(16, 60):
            row = drawn_row(program, 8, draw)
            for at, event in enumerate(run(program, row)):
                way = way_to(program, event)
                self.assertLessEqual(len(way), at)
                self.assertIs(reaches(program, event), True)
                self.assertEqual(run_loop(made(program), way)[-1], event)

    def test_gives_and_runs(self):
        for program in drawn_programs(17, 150):
            if has_zip(program):
                continue
            for length, no in ((0, []), (3, []), (5, [("f", f"{program.source}1"), ("g", f"{program.source}2")])):
                walk = Walk(program)
                asked = 0
                while walk.replies:
                    kind = walk.event[0]
                    if kind == "ask":
                        word = "item" if asked < length else "none"
                        asked += 1
                    elif kind == "test":
                        word = "no" if walk.event[1:] in no else "yes"
                    else:
                        word = walk.replies[0]
                    walk.reply(word)
                self.assertEqual(walk.event, ("end",))
                self.assertEqual(walk.given, gives(program, length, no))


if __name__ == "__main__":
    unittest.main()
