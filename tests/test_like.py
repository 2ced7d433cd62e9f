"""Walk.like of the interface, also beside all rows of replies up to a length."""

import unittest

from pulledonce.programs import Program
from pulledonce.walks import Walk
from tests.brute import programs, shortest_difference
from tests.test_walks import told, walked

SMALL = [
    ("keep", "p"), ("after", "p"), ("take", 1), ("take", 2), ("skip", 1), ("lots", 2), ("flat",), ("gather", 2),
    ("zip", Program("b", [("take", 1)])),
]


class LikeTest(unittest.TestCase):
    def assert_like(self, first, second, expected=True):
        before = [told(first), told(second)]
        self.assertIs(first.like(second), expected)
        self.assertIs(second.like(first), expected)
        self.assertEqual([told(first), told(second)], before)

    def like(self, first, words, second, words_of_second, expected=True):
        """first and second are lists of stages behind source a."""
        walks = [walked(Program("a", first), words), walked(Program("a", second), words_of_second)]
        self.assert_like(walks[0], walks[1], expected)


class OneProgramTest(LikeTest):
    def test_forks(self):
        for stages in ([], [("keep", "p"), ("map", "f")], [("gather", 2), ("zip", Program("b", [("lots", 2)])), ("flat",)]):
            walk = Walk(Program("a", stages))
            while walk.replies and len(walk.events) < 30:
                self.assert_like(walk, walk.fork())
                self.assert_like(walk, walk)
                walk.reply(walk.replies[0])

    def test_forks_that_go_their_own_way(self):
        walk = walked(Program("a", [("keep", "p"), ("gather", 2)]), "item")
        fork = walk.fork()
        fork.reply("yes")
        walk.reply("no")
        self.assertEqual(walk.event, fork.event)
        self.assert_like(walk, fork, False)
        fork.reply("none")
        walk.reply("none")
        self.assert_like(walk, fork, False)
        fork.reply("more")
        self.assert_like(walk, fork)

    def test_behind_other_rows(self):
        self.like([], "item more", [], "", False)
        self.like([], "item more item more", [], "item more", False)
        self.like([("map", "f")], "item done more", [("map", "f")], "item", False)
        self.like([("take", 2)], "item more", [("take", 2)], "", False)
        self.like([("after", "p")], "item no", [("after", "p")], "item yes more", False)
        self.like([("keep", "p")], "item no item", [("keep", "p")], "item yes more item")
        self.like([("keep", "p")], "item no", [("keep", "p")], "item yes more")
        self.like([("while", "p")], "item yes more item no", [("while", "p")], "none")
        self.like([("zip", Program("b"))], "item item more item", [("zip", Program("b"))], "item", False)
        self.like([("zip", Program("b"))], "none", [("zip", Program("b"))], "item none")

    def test_runs_that_are_over(self):
        ends = ["none", "item close", "item more none", "item more item close"]
        for one in ends:
            for two in ends:
                self.like([], one, [], two, one[-4:] == two[-4:])
        self.like([("map", "f")], "item fails", [("keep", "p")], "item no item fails")
        self.like([("map", "f")], "item fails", [("map", "f")], "item done close", False)
        self.like([("map", "f")], "none", [("map", "f")], "item fails", False)


class OtherProgramsTest(LikeTest):
    def test_a_stage_more_or_less(self):
        self.like([], "", [("gather", 1)], "")
        self.like([("gather", 1)], "item more item", [], "item more item")
        self.like([], "", [("lots", 1), ("flat",)], "")
        self.like([], "", [("gather", 2)], "", False)
        self.like([("map", "f")], "", [("map", "f"), ("map", "f")], "", False)
        self.like([("keep", "p")], "", [("keep", "p"), ("keep", "p")], "", False)
        self.like([("take", 2)], "", [("take", 2), ("take", 3)], "")
        self.like([("skip", 1), ("skip", 2)], "", [("skip", 3)], "")
        self.like([("lots", 2)], "", [("lots", 2), ("skip", 1)], "", False)

    def test_with_other_sources(self):
        self.assert_like(Walk(Program("a")), Walk(Program("b")), False)
        self.assert_like(walked(Program("a"), "none"), walked(Program("b"), "item more none"))
        one = walked(Program("a", [("zip", Program("b"))]), "item")
        self.assert_like(one, Walk(Program("b")), False)
        other = walked(Program("a", [("zip", Program("b", [("zip", Program("c"))]))]), "item")
        self.assert_like(one, other, False)

    def test_stages_that_do_nothing_any_more(self):
        self.like([("skip", 2)], "item item", [], "item more item more")
        self.like([("skip", 2)], "item item item", [], "item more item more item")
        self.like([("skip", 2)], "item", [("skip", 1)], "", False)
        self.like([("skip", 3)], "item", [("skip", 2), ("skip", 1)], "item")
        self.like([("skip", 2)], "item item", [("skip", 1)], "item item more")
        self.like([("after", "p")], "item yes more", [], "item more")
        self.like([("after", "p")], "item no item yes more", [("skip", 1)], "item item more")
        self.like([("take", 2)], "item more", [("take", 1)], "", False)
        self.like([("take", 3)], "item more item", [("take", 2)], "item more item", False)
        self.like([("take", 4)], "item more item more item", [("take", 3)], "item more item more item", False)

    def test_a_full_take_and_an_ended_one(self):
        self.like([("take", 1), ("gather", 2)], "item", [("gather", 2)], "item none")
        self.like([("take", 2), ("lots", 3)], "item item", [("take", 3), ("lots", 3)], "item item none")
        self.like([("take", 2), ("lots", 3)], "item item", [("while", "p"), ("lots", 3)], "item yes item yes item no")
        self.like([("take", 2), ("lots", 2)], "item item", [("take", 3), ("lots", 2)], "item item", False)
        self.like([("take", 2), ("gather", 2)], "item item", [("gather", 3)], "item item none")
        self.like([("take", 1)], "item more", [], "none")
        self.like([("take", 1)], "item", [], "item", False)
        self.like([("lots", 2), ("take", 1), ("flat",)], "item item", [("lots", 2), ("flat",)], "item item", False)
        self.like([("lots", 2), ("take", 1), ("flat",)], "item none", [("lots", 2), ("flat",)], "item none")
        self.like([("gather", 2), ("take", 1), ("gather", 2)], "item item", [("take", 1), ("gather", 2)], "item")
        self.like([("gather", 3), ("take", 1)], "item item none", [("gather", 2), ("take", 1)], "item item")

    def test_things_that_are_gone(self):
        one = [("zip", Program("b", [("take", 1), ("skip", 1)]))]
        self.like(one, "", one + [("keep", "p")], "")
        self.like(one, "item", one + [("map", "f")], "item")
        self.like([("take", 2), ("skip", 2)], "item item", [("take", 1), ("skip", 1)], "item")
        self.like([("take", 2), ("skip", 3)], "", [("take", 2), ("skip", 4), ("keep", "p")], "")
        self.like([("keep", "p"), ("gather", 2)], "item no item yes", [("keep", "p"), ("gather", 2)], "item yes", False)
        self.like([("keep", "p"), ("take", 1)], "item no item yes more", [("keep", "p"), ("take", 1)], "item yes more")

    def test_items_of_other_numbers_that_never_show(self):
        gone = [("keep", "p"), ("take", 1), ("skip", 1)]
        self.like(gone, "item no", gone, "", False)
        gone = [("zip", Program("b", [("take", 2), ("skip", 2)]))]
        self.like([("skip", 1)] + gone, "item", [("skip", 2)] + gone, "item item")
        self.like([("skip", 1)] + gone, "item item", [("skip", 2)] + gone, "item item item")
        self.like([("skip", 1)] + gone, "item item item", [("skip", 2)] + gone, "item item item item")
        self.like([("skip", 1)] + gone, "item item item", [("skip", 2)] + gone, "item item item", False)
        shown = [("zip", Program("b", [("take", 2), ("skip", 1)]))]
        self.like([("skip", 1)] + shown, "item", [("skip", 2)] + shown, "item item", False)

    def test_an_item_that_the_other_one_has_already(self):
        self.like([], "item more item more", [("gather", 2)], "item item more item more", False)
        self.like([("skip", 1), ("keep", "p")], "item", [("gather", 2), ("keep", "p")], "item", False)
        self.like([("zip", Program("b"))], "item item more", [("gather", 2), ("zip", Program("b"))],
                  "item item item more", False)


class BoundTest(LikeTest):
    def test_a_bound_reply_and_a_free_one(self):
        twice = [("keep", "p"), ("gather", 2), ("keep", "p")]
        self.like(twice, "item yes none", [("gather", 2), ("keep", "p")], "item none", False)
        self.like(twice, "item yes none yes", [("gather", 2), ("keep", "p")], "item none yes")
        self.like([("keep", "p"), ("keep", "p")], "item", [("keep", "p")], "item", False)
        self.like([("keep", "p"), ("keep", "p")], "item yes", [("keep", "p")], "item", False)
        self.like([("keep", "p"), ("keep", "p"), ("keep", "p")], "item yes", [("keep", "p"), ("keep", "p")], "item yes",
                  False)
        self.like([("keep", "p"), ("keep", "p"), ("keep", "p")], "item yes yes", [("keep", "p"), ("keep", "p")],
                  "item yes", False)

    def test_behind_a_yes_that_binds(self):
        one = [("after", "p"), ("gather", 2), ("keep", "p")]
        self.like(one, "item no item yes item yes", one, "item yes item yes", False)
        other = [("keep", "p"), ("gather", 2), ("keep", "p")]
        self.like(one, "item yes item", other, "item yes item yes", False)
        self.like(one, "item yes none", other, "item yes none")
        self.like([("keep", "q"), ("gather", 2), ("keep", "p")], "item yes none", other, "item yes none", False)
        self.like([("while", "p"), ("gather", 2), ("while", "p")], "item yes none", other, "item yes none")

    def test_replies_that_can_not_come_again(self):
        self.like([("keep", "p"), ("keep", "q")], "item yes no item no", [("keep", "p"), ("keep", "q")], "item no item no")
        self.like([("keep", "q"), ("gather", 2), ("map", "f")], "item yes item yes", [("gather", 2), ("map", "f")],
                  "item item", False)
        self.like([("keep", "q"), ("gather", 2), ("map", "f")], "item yes none", [("gather", 2), ("map", "f")], "item none")


class FarTest(LikeTest):
    def test_walks_that_differ_only_far_on(self):
        skip = ("skip", 4)
        self.like([skip] * 6, "", [skip] * 5 + [("skip", 3)], "", False)
        self.like([skip] * 6, "", [("skip", 3)] + [skip] * 5, "", False)
        self.like([skip] * 5 + [("skip", 3)], "", [skip] * 2 + [("skip", 3)] + [skip] * 3, "")
        lots = ("lots", 4)
        self.like([lots, lots, ("skip", 3)], "", [lots, ("skip", 1), lots, ("skip", 2)], "", False)
        self.like([lots, lots, ("skip", 2)], "", [lots, skip, skip, lots], "")
        self.like([lots, lots, ("take", 3)], "", [lots, lots, ("take", 4)], "", False)
        self.like([lots, ("take", 4), ("flat",)], "", [lots, ("take", 3), ("flat",)], "", False)
        self.like([lots, ("take", 4), ("take", 3)], "item", [lots, ("take", 3)], "item")

    def test_large_rooms(self):
        lots, flat, gather = ("lots", 4), ("flat",), ("gather", 4)
        self.like([lots, lots, flat, flat], "item", [lots, lots, flat, flat, ("gather", 1)], "item")
        self.like([lots, lots, flat, flat], "", [lots, flat, lots, flat], "", False)
        self.like([gather] * 6, "", [gather] * 6, "item", False)
        self.like([gather] * 6, "item item", [gather] * 6, "item item")
        self.like([gather, gather, gather, gather], "", [gather, gather, gather, ("gather", 3)], "", False)
        self.like([gather, ("skip", 1), gather, gather], "", [gather, gather, gather, ("skip", 1)], "")
        self.like([gather, ("skip", 1), gather, gather], "", [gather, gather, gather, ("skip", 2)], "", False)
        both = [gather, ("zip", Program("b", [gather, gather]))]
        self.like([("gather", 1)] + both, "item", both, "item")
        self.like([lots, ("zip", Program("b", [lots]))], "", [lots, ("zip", Program("b", [("lots", 3)]))], "", False)


class AllRowsTest(LikeTest):
    def compare(self, first, second, most_ahead, most):
        """All walks of two programs up to a length beside all rows of replies behind them."""
        pairs = [(one, two) for one in walks(first, most_ahead) for two in walks(second, most_ahead)]
        for (one, words_of_one), (two, words_of_two) in pairs:
            if one.event != two.event or not one.replies:
                continue
            row = shortest_difference(first, second, words_of_one, words_of_two, most)
            self.assertIs(one.like(two), row is None, (first.stages, words_of_one, second.stages, words_of_two, row))

    def test_one_program(self):
        for program in programs(SMALL, 2):
            self.compare(program, program, 4, 7)

    def test_programs_beside_others(self):
        many = list(programs(SMALL, 2))
        for at, first in enumerate(many):
            for second in many[at % 3::3]:
                self.compare(first, second, 3, 7)


def walks(program, most):
    """All walks of a program with so many replies at the most, and their replies."""
    found = [(Walk(program), ())]
    begin = 0
    for _ in range(most):
        end = len(found)
        for walk, words in found[begin:end]:
            for word in walk.replies:
                fork = walk.fork()
                fork.reply(word)
                found.append((fork, words + (word,)))
        begin = end
    return found


if __name__ == "__main__":
    unittest.main()
