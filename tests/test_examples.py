"""The examples of the interface in the document, as they are written there."""

import unittest

from pulledonce.errors import BadReplies, BadStage, BadText
from pulledonce.programs import Program


class StageOneTest(unittest.TestCase):
    def test_examples(self):
        program = Program("a", [("keep", "p"), ("map", "f")])
        self.assertEqual(
            [program.source, program.sources, program.depth, program.then(("lots", 2)).depth,
             program.without([0]).stages],
            ["a", ("a",), 0, 1, (("map", "f"),)],
        )
        with self.assertRaises(BadStage) as seen:
            Program("a", [("lots", 2), ("map", "f"), ("flat",)])
        self.assertEqual(seen.exception.position, 2)
        with self.assertRaises(BadStage) as seen:
            Program("a", [("zip", Program("b")), ("zip", Program("b"))])
        self.assertEqual(seen.exception.position, 1)


class StageTwoTest(unittest.TestCase):
    def test_examples(self):
        from pulledonce.walks import Walk, run
        program = Program("a", [("keep", "p"), ("map", "f")])
        walk = Walk(program)
        self.assertEqual(
            [walk.event, walk.replies, walk.reply("item"), walk.event, walk.reply("yes"), walk.event],
            [("ask", "a"), ["item", "none"], None, ("test", "p", "a0"), None, ("call", "f", "a0")],
        )
        self.assertEqual(
            [walk.reply("done"), walk.event, walk.reply("more"), walk.event, walk.given],
            [None, ("give", "f(a0)"), None, ("ask", "a"), ["f(a0)"]],
        )
        self.assertEqual([walk.fork().like(walk), walk.like(Walk(program))], [True, False])
        self.assertEqual(run(Program("a", [("lots", 2)]), ["item", "none", "more"]),
                         [("ask", "a"), ("ask", "a"), ("give", "[a0]"), ("end",)])
        with self.assertRaises(BadReplies) as seen:
            run(Program("a", [("keep", "p"), ("keep", "p")]), ["item", "yes", "no"])
        self.assertEqual(seen.exception.position, 2)


class StageThreeTest(unittest.TestCase):
    def test_examples(self):
        from pulledonce.ways import reaches, way_to
        program = Program("a", [("keep", "p"), ("map", "f")])
        self.assertEqual(
            [way_to(program, ("give", "f(a1)")), reaches(program, ("test", "p", "a0")),
             way_to(program, ("give", "a0"))],
            [["item", "no", "item", "yes", "done"], True, None],
        )


class StageFourTest(unittest.TestCase):
    def test_examples(self):
        from pulledonce.alike import alike, parting
        self.assertIs(alike(Program("a", [("map", "f"), ("take", 1)]), Program("a", [("take", 1), ("map", "f")])), True)
        self.assertEqual(parting(Program("a", [("lots", 2), ("flat",)]), Program("a", [("gather", 2)])),
                         ["item", "item", "more"])
        self.assertEqual(len(parting(Program("a", [("keep", "p"), ("keep", "p")]), Program("a", [("keep", "p")]))), 2)


class StageFiveTest(unittest.TestCase):
    def test_examples(self):
        from pulledonce.items import gives, items_parting, same_items
        program = Program("a", [("keep", "p"), ("map", "f")])
        self.assertEqual(gives(program, 3, [("p", "a1")]), ["f(a0)", "f(a2)"])
        self.assertEqual(
            [same_items(Program("a", [("lots", 2), ("flat",)]), Program("a", [("gather", 3)])),
             same_items(Program("a", [("while", "p"), ("keep", "p")]), Program("a", [("while", "p")]))],
            [True, True],
        )
        self.assertEqual(
            items_parting(Program("a", [("keep", "p"), ("take", 1)]), Program("a", [("take", 1), ("keep", "p")])),
            (2, [("p", "a0")]),
        )


class StageSixTest(unittest.TestCase):
    def test_examples(self):
        from pulledonce.spare import places, spare
        program = Program("a", [("keep", "p"), ("map", "f")])
        self.assertEqual(
            [spare(Program("a", [("take", 2), ("take", 2)])),
             spare(Program("a", [("lots", 1), ("flat",), ("map", "f")])), spare(program)],
            [[[0], [1]], [[0, 1]], [[]]],
        )
        twice = Program("a", [("keep", "p"), ("keep", "p")])
        self.assertEqual([spare(twice), spare(twice, items=True)], [[[]], [[0], [1]]])
        self.assertEqual(
            [places(Program("a", [("map", "f"), ("take", 1)])), places(Program("a", [("keep", "p"), ("keep", "q")])),
             places(Program("a", [("keep", "p"), ("keep", "q")]), items=True)],
            [[0], [], [0]],
        )


LOOP = [("ask", "a", 0, (1, ()), (3, ())), ("call", "f", 0, 0, (2, ())), ("give", (0, 0), (0, ())), ("end",)]


class StageSevenTest(unittest.TestCase):
    def test_examples(self):
        from pulledonce.loops import is_loop, run_loop
        self.assertEqual(
            [is_loop(LOOP), is_loop(LOOP[1:] + LOOP[:1]), run_loop(LOOP, ["item", "done", "more"])],
            [True, False, [("ask", "a"), ("call", "f", "a0"), ("give", "[f(a0), f(a0)]"), ("ask", "a")]],
        )


class StageEightTest(unittest.TestCase):
    def test_examples(self):
        from pulledonce.loops import is_loop, run_loop
        from pulledonce.making import made
        program = Program("a", [("keep", "p"), ("map", "f")])
        self.assertEqual(
            [is_loop(made(program)), run_loop(made(program), ["item", "no", "none"])],
            [True, [("ask", "a"), ("test", "p", "a0"), ("ask", "a"), ("end",)]],
        )


class StageNineTest(unittest.TestCase):
    def test_examples(self):
        from pulledonce.judging import is_loop_of, loop_parting
        from pulledonce.making import made
        program = Program("a", [("keep", "p"), ("map", "f")])
        self.assertEqual(
            [is_loop_of(program, made(program)), is_loop_of(program, LOOP), is_loop_of(program, None),
             loop_parting(program, LOOP)],
            [True, False, False, ["item"]],
        )


class StageTenTest(unittest.TestCase):
    def test_examples(self):
        from pulledonce.held import most_held
        program = Program("a", [("keep", "p"), ("map", "f")])
        self.assertEqual(
            [most_held(program), most_held(Program("a", [("gather", 3)]))[0], most_held(Program("a"))],
            [(1, ["item"]), 3, (1, ["item"])],
        )


class StageElevenTest(unittest.TestCase):
    def test_examples(self):
        from pulledonce.texts import program_text, read_program
        self.assertEqual(program_text(Program("a", [("zip", Program("b", [("take", 2)])), ("flat",)])),
                         "from a\nzip\n  from b\n  take 2\nflat")
        with self.assertRaises(BadText) as seen:
            read_program("from a\nmap f\nflat")
        self.assertEqual(seen.exception.line, 3)


if __name__ == "__main__":
    unittest.main()
