"""Point [4]: what each kind of stage asks, calls and gives, and when it ends, by the events of runs."""

import unittest

from pulledonce.programs import Program
from pulledonce.walks import Walk, run

KINDS = {"ask": 2, "call": 3, "test": 3, "give": 2, "end": 1, "failed": 1, "closed": 1}


def event(text):
    """The event that a text like "test p [a0, a1]" stands for."""
    kind = text.split(" ")[0]
    return tuple(text.split(" ", KINDS[kind] - 1))


class StageTest(unittest.TestCase):
    def shows(self, stages, words, *texts):
        """Whether a run shows these events behind the asking of a first item."""
        program = Program("a", stages)
        events = [event(text) for text in texts]
        self.assertEqual(run(program, words.split()), [("ask", "a")] + events)

    def is_over(self, stages, words, *texts):
        self.shows(stages, words, *texts)
        walk = Walk(Program("a", stages))
        for word in words.split():
            walk.reply(word)
        self.assertEqual(walk.replies, [])


class NoStageTest(StageTest):
    def test_alone(self):
        self.is_over([], "none", "end")
        self.is_over([], "item more item more none", "give a0", "ask a", "give a1", "ask a", "end")
        self.is_over([], "item close", "give a0", "closed")
        self.shows([], "item more " * 12 + "item", *[
            text for number in range(12) for text in (f"give a{number}", "ask a")], "give a12")

    def test_other_sources(self):
        self.assertEqual(run(Program("d"), ["item", "more", "none"]),
                         [("ask", "d"), ("give", "d0"), ("ask", "d"), ("end",)])


class MapTest(StageTest):
    def test_alone(self):
        self.is_over([("map", "f")], "none", "end")
        self.is_over([("map", "f")], "item done more item done more none",
                     "call f a0", "give f(a0)", "ask a", "call f a1", "give f(a1)", "ask a", "end")
        self.is_over([("map", "f")], "item fails", "call f a0", "failed")
        self.is_over([("map", "f")], "item done close", "call f a0", "give f(a0)", "closed")

    def test_behind_others(self):
        self.is_over([("map", "f"), ("map", "g")], "item done done more none",
                     "call f a0", "call g f(a0)", "give g(f(a0))", "ask a", "end")
        self.is_over([("lots", 2), ("map", "f")], "item item done more item none done more",
                     "ask a", "call f [a0, a1]", "give f([a0, a1])", "ask a", "ask a", "call f [a2]", "give f([a2])", "end")
        self.shows([("map", "f"), ("lots", 2), ("map", "f")], "item done item done done",
                   "call f a0", "ask a", "call f a1", "call f [f(a0), f(a1)]", "give f([f(a0), f(a1)])")


class KeepTest(StageTest):
    def test_alone(self):
        self.is_over([("keep", "p")], "none", "end")
        self.is_over([("keep", "p")], "item no item yes more item no none",
                     "test p a0", "ask a", "test p a1", "give a1", "ask a", "test p a2", "ask a", "end")
        self.is_over([("keep", "p")], "item fails", "test p a0", "failed")

    def test_behind_others(self):
        self.is_over([("take", 2), ("keep", "p")], "item no item no", "test p a0", "ask a", "test p a1", "end")
        self.is_over([("map", "f"), ("keep", "p")], "item done no item done yes close",
                     "call f a0", "test p f(a0)", "ask a", "call f a1", "test p f(a1)", "give f(a1)", "closed")
        self.is_over([("lots", 2), ("keep", "p")], "item item no item none yes more",
                     "ask a", "test p [a0, a1]", "ask a", "ask a", "test p [a2]", "give [a2]", "end")
        self.shows([("keep", "p"), ("keep", "q")], "item yes no item no item",
                   "test p a0", "test q a0", "ask a", "test p a1", "ask a", "test p a2")


class WhileTest(StageTest):
    def test_alone(self):
        self.is_over([("while", "p")], "none", "end")
        self.is_over([("while", "p")], "item yes more item yes more item no",
                     "test p a0", "give a0", "ask a", "test p a1", "give a1", "ask a", "test p a2", "end")
        self.is_over([("while", "p")], "item yes more none", "test p a0", "give a0", "ask a", "end")
        self.is_over([("while", "p")], "item fails", "test p a0", "failed")

    def test_none_asks_it_again(self):
        self.is_over([("while", "p"), ("gather", 3)], "item yes item yes item no more more",
                     "test p a0", "ask a", "test p a1", "ask a", "test p a2", "give a0", "give a1", "end")
        self.is_over([("while", "p"), ("lots", 2)], "item yes item no more",
                     "test p a0", "ask a", "test p a1", "give [a0]", "end")

    def test_behind_others(self):
        self.is_over([("take", 1), ("while", "p")], "item yes more", "test p a0", "give a0", "end")
        self.is_over([("keep", "q"), ("while", "p")], "item no item yes no",
                     "test q a0", "ask a", "test q a1", "test p a1", "end")


class AfterTest(StageTest):
    def test_ahead_of_its_yes_and_behind_it(self):
        self.is_over([("after", "p")], "none", "end")
        self.is_over([("after", "p")], "item no item no none", "test p a0", "ask a", "test p a1", "ask a", "end")
        self.is_over([("after", "p")], "item no item yes more item more item more none",
                     "test p a0", "ask a", "test p a1", "give a1", "ask a", "give a2", "ask a", "give a3", "ask a", "end")
        self.is_over([("after", "p")], "item fails", "test p a0", "failed")

    def test_behind_others(self):
        self.is_over([("lots", 1), ("after", "p")], "item yes more item more none",
                     "test p [a0]", "give [a0]", "ask a", "give [a1]", "ask a", "end")
        self.is_over([("after", "p"), ("after", "q")], "item yes no item yes more item close",
                     "test p a0", "test q a0", "ask a", "test q a1", "give a1", "ask a", "give a2", "closed")
        self.is_over([("take", 2), ("after", "p")], "item no item no", "test p a0", "ask a", "test p a1", "end")
        self.is_over([("take", 2), ("after", "p")], "item yes more item more",
                     "test p a0", "give a0", "ask a", "give a1", "end")


class TakeTest(StageTest):
    def test_asked_again_it_ends_without_asking(self):
        for n in (1, 2, 3, 4):
            texts = [text for number in range(n) for text in ("ask a", f"give a{number}")]
            self.is_over([("take", n)], "item more " * n, *texts[1:], "end")

    def test_the_source_ends_earlier(self):
        self.is_over([("take", 3)], "none", "end")
        self.is_over([("take", 3)], "item more none", "give a0", "ask a", "end")

    def test_behind_others(self):
        self.is_over([("keep", "p"), ("take", 1)], "item no item yes more", "test p a0", "ask a", "test p a1", "give a1", "end")
        self.is_over([("lots", 2), ("flat",), ("take", 1)], "item item more", "ask a", "give a0", "end")
        self.is_over([("take", 3), ("take", 2)], "item more item more", "give a0", "ask a", "give a1", "end")
        self.is_over([("take", 2), ("take", 3)], "item more item more", "give a0", "ask a", "give a1", "end")
        self.is_over([("gather", 2), ("take", 1)], "item item more", "ask a", "give a0", "end")

    def test_ahead_of_others(self):
        self.is_over([("take", 2), ("gather", 4)], "item item more more", "ask a", "give a0", "give a1", "end")
        self.is_over([("take", 1), ("gather", 4)], "item more", "give a0", "end")
        self.is_over([("take", 1), ("map", "f")], "item done more", "call f a0", "give f(a0)", "end")


class SkipTest(StageTest):
    def test_alone(self):
        for n in (1, 2, 3, 4):
            self.is_over([("skip", n)], "item " * (n + 1) + "more item more none",
                         *["ask a"] * n, f"give a{n}", "ask a", f"give a{n + 1}", "ask a", "end")

    def test_the_stage_before_ends_early(self):
        self.is_over([("skip", 2)], "none", "end")
        self.is_over([("skip", 2)], "item none", "ask a", "end")
        self.is_over([("skip", 2)], "item item none", "ask a", "ask a", "end")
        self.is_over([("take", 1), ("skip", 3)], "item", "end")
        self.is_over([("take", 2), ("skip", 2)], "item item", "ask a", "end")
        self.is_over([("take", 3), ("skip", 2)], "item item item more", "ask a", "ask a", "give a2", "end")

    def test_behind_others(self):
        self.is_over([("keep", "p"), ("skip", 1)], "item no item yes item yes more none",
                     "test p a0", "ask a", "test p a1", "ask a", "test p a2", "give a2", "ask a", "end")
        self.is_over([("lots", 2), ("skip", 1)], "item item item none more",
                     "ask a", "ask a", "ask a", "give [a2]", "end")
        self.is_over([("skip", 1), ("skip", 1)], "item item item more none", "ask a", "ask a", "give a2", "ask a", "end")
        self.shows([("lots", 4), ("flat",), ("skip", 3)], "item item item item more",
                   "ask a", "ask a", "ask a", "give a3", "ask a")


class LotsTest(StageTest):
    def test_alone(self):
        self.is_over([("lots", 3)], "none", "end")
        self.is_over([("lots", 3)], "item item item more item none more",
                     "ask a", "ask a", "give [a0, a1, a2]", "ask a", "ask a", "give [a3]", "end")
        self.is_over([("lots", 2)], "item item more none", "ask a", "give [a0, a1]", "ask a", "end")
        self.is_over([("lots", 1)], "item more none", "give [a0]", "ask a", "end")

    def test_behind_others(self):
        self.is_over([("take", 3), ("lots", 2)], "item item more item more",
                     "ask a", "give [a0, a1]", "ask a", "give [a2]", "end")
        self.is_over([("take", 2), ("lots", 2)], "item item more", "ask a", "give [a0, a1]", "end")
        self.is_over([("gather", 3), ("lots", 2)], "item none more", "ask a", "give [a0]", "end")
        self.is_over([("lots", 2), ("lots", 2)], "item item item none more",
                     "ask a", "ask a", "ask a", "give [[a0, a1], [a2]]", "end")
        self.is_over([("lots", 2), ("lots", 2)], "item item none more", "ask a", "ask a", "give [[a0, a1]]", "end")
        self.is_over([("keep", "p"), ("lots", 2)], "item yes item no none more",
                     "test p a0", "ask a", "test p a1", "ask a", "give [a0]", "end")


class FlatTest(StageTest):
    def test_of_lots(self):
        self.is_over([("lots", 2), ("flat",)], "none", "end")
        self.is_over([("lots", 2), ("flat",)], "item item more more none", "ask a", "give a0", "give a1", "ask a", "end")
        self.is_over([("lots", 3), ("flat",)], "item item none more more", "ask a", "ask a", "give a0", "give a1", "end")

    def test_of_rows_of_rows(self):
        self.is_over([("lots", 2), ("lots", 2), ("flat",)], "item item item none more more",
                     "ask a", "ask a", "ask a", "give [a0, a1]", "give [a2]", "end")
        self.is_over([("lots", 2), ("lots", 2), ("flat",), ("flat",)], "item item item none more more more",
                     "ask a", "ask a", "ask a", "give a0", "give a1", "give a2", "end")

    def test_of_a_zip(self):
        self.is_over([("zip", Program("b")), ("flat",)], "item item more more none",
                     "ask b", "give a0", "give b0", "ask a", "end")
        self.is_over([("lots", 2), ("zip", Program("b", [("lots", 1)])), ("flat",), ("flat",)],
                     "item item item more more more none",
                     "ask a", "ask b", "give a0", "give a1", "give b0", "ask a", "end")

    def test_of_rows_that_were_let_through(self):
        self.is_over([("lots", 2), ("keep", "p"), ("flat",)], "item item no item item yes more more none",
                     "ask a", "test p [a0, a1]", "ask a", "ask a", "test p [a2, a3]", "give a2", "give a3", "ask a", "end")
        self.is_over([("lots", 1), ("gather", 2), ("flat",)], "item item more none more",
                     "ask a", "give a0", "ask a", "give a1", "end")

    def test_of_results_in_rows(self):
        self.is_over([("lots", 2), ("map", "f"), ("lots", 2), ("flat",)], "item item done item none done more more",
                     "ask a", "call f [a0, a1]", "ask a", "ask a", "call f [a2]", "give f([a0, a1])", "give f([a2])", "end")


class GatherTest(StageTest):
    def test_alone(self):
        self.is_over([("gather", 2)], "none", "end")
        self.is_over([("gather", 2)], "item item more item more none more",
                     "ask a", "give a0", "ask a", "give a1", "ask a", "give a2", "end")
        self.is_over([("gather", 1)], "item more item more none", "give a0", "ask a", "give a1", "ask a", "end")

    def test_the_stage_before_ends(self):
        self.is_over([("gather", 4)], "item item none more more", "ask a", "ask a", "give a0", "give a1", "end")
        self.is_over([("take", 4), ("gather", 4)], "item item item item more more more more",
                     "ask a", "ask a", "ask a", "give a0", "give a1", "give a2", "give a3", "end")
        self.is_over([("skip", 1), ("gather", 2)], "item item none more", "ask a", "ask a", "give a1", "end")

    def test_behind_others(self):
        self.is_over([("map", "f"), ("gather", 2)], "item done item done more none more",
                     "call f a0", "ask a", "call f a1", "give f(a0)", "ask a", "give f(a1)", "end")
        self.is_over([("gather", 2), ("map", "f")], "item item done more none done more",
                     "ask a", "call f a0", "give f(a0)", "ask a", "call f a1", "give f(a1)", "end")
        self.is_over([("gather", 2), ("gather", 2)], "item item item more none more more",
                     "ask a", "ask a", "give a0", "ask a", "give a1", "give a2", "end")


class ZipTest(StageTest):
    def test_either_side_ends(self):
        self.is_over([("zip", Program("b"))], "item item more none", "ask b", "give [a0, b0]", "ask a", "end")
        self.is_over([("zip", Program("b"))], "item none", "ask b", "end")
        self.is_over([("zip", Program("b"))], "none", "end")
        self.is_over([("take", 1), ("zip", Program("b"))], "item item more", "ask b", "give [a0, b0]", "end")
        self.is_over([("zip", Program("b", [("take", 1)]))], "item item more item",
                     "ask b", "give [a0, b0]", "ask a", "end")

    def test_a_thing_of_its_own_side_is_gone(self):
        self.is_over([("zip", Program("b")), ("gather", 3)], "item item item none more",
                     "ask b", "ask a", "ask b", "give [a0, b0]", "end")
        self.is_over([("gather", 2), ("zip", Program("b"))], "item item none", "ask a", "ask b", "end")
        self.is_over([("zip", Program("b")), ("lots", 2)], "item item item none more",
                     "ask b", "ask a", "ask b", "give [[a0, b0]]", "end")

    def test_stages_on_the_other_side(self):
        self.is_over([("zip", Program("b", [("keep", "p")]))], "item item no item yes more none",
                     "ask b", "test p b0", "ask b", "test p b1", "give [a0, b1]", "ask a", "end")
        self.shows([("lots", 2), ("zip", Program("b", [("lots", 3)]))], "item item item none more",
                   "ask a", "ask b", "ask b", "give [[a0, a1], [b0]]", "ask a")
        self.is_over([("zip", Program("b", [("gather", 2)]))], "item item item more item none more item",
                     "ask b", "ask b", "give [a0, b0]", "ask a", "ask b", "give [a1, b1]", "ask a", "end")
        self.is_over([("map", "f"), ("zip", Program("b", [("map", "f")]))], "item done item fails",
                     "call f a0", "ask b", "call f b0", "failed")

    def test_zips_in_zips(self):
        inner = Program("b", [("zip", Program("c"))])
        self.is_over([("zip", inner)], "item item item more none", "ask b", "ask c", "give [a0, [b0, c0]]", "ask a", "end")
        self.is_over([("zip", inner)], "item item none", "ask b", "ask c", "end")
        self.is_over([("zip", inner)], "item none", "ask b", "end")
        self.is_over([("zip", Program("b")), ("zip", Program("c"))], "item item item more item none",
                     "ask b", "ask c", "give [[a0, b0], c0]", "ask a", "ask b", "end")
        deep = Program("b", [("zip", Program("c", [("zip", Program("d", [("take", 1)]))])), ("flat",)])
        self.is_over([("zip", deep)], "item item item item more item more item item item",
                     "ask b", "ask c", "ask d", "give [a0, b0]", "ask a", "give [a1, [c0, d0]]",
                     "ask a", "ask b", "ask c", "end")


if __name__ == "__main__":
    unittest.main()
