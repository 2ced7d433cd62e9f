"""Class Walk of the interface, and run; like has its own tests."""

import unittest

from pulledonce.errors import BadReplies, BadReply
from pulledonce.programs import Program
from pulledonce.walks import Walk, run
from tests.support import any_values, error_of, same

WORDS = ["item", "none", "done", "fails", "yes", "no", "more", "close"]
PROGRAM = Program("a", [("keep", "p"), ("map", "f")])

# A row of replies up to an event of each kind, and what can be replied there.
KINDS = [
    (PROGRAM, "", ("ask", "a"), ["item", "none"]),
    (PROGRAM, "item", ("test", "p", "a0"), ["yes", "no", "fails"]),
    (PROGRAM, "item yes", ("call", "f", "a0"), ["done", "fails"]),
    (PROGRAM, "item yes done", ("give", "f(a0)"), ["more", "close"]),
    (PROGRAM, "item yes done close", ("closed",), []),
    (PROGRAM, "item yes fails", ("failed",), []),
    (PROGRAM, "item fails", ("failed",), []),
    (PROGRAM, "item no none", ("end",), []),
    (Program("a", [("keep", "p"), ("keep", "p")]), "item yes", ("test", "p", "a0"), ["yes"]),
    (Program("a", [("while", "p"), ("lots", 1), ("flat",), ("after", "p")]), "item yes", ("test", "p", "a0"), ["yes"]),
]


def walked(program, words):
    walk = Walk(program)
    for word in words.split():
        walk.reply(word)
    return walk


def told(walk):
    return (walk.event, walk.events, walk.replies, walk.given)


class ToldTest(unittest.TestCase):
    def test_ahead_of_and_behind_each_reply(self):
        walk = Walk(Program("a", [("lots", 2), ("flat",), ("map", "f")]))
        rows = [
            ("item", ("ask", "a"), ["item", "none"], []),
            ("item", ("ask", "a"), ["item", "none"], []),
            ("done", ("call", "f", "a0"), ["done", "fails"], []),
            ("more", ("give", "f(a0)"), ["more", "close"], ["f(a0)"]),
            ("done", ("call", "f", "a1"), ["done", "fails"], ["f(a0)"]),
            ("more", ("give", "f(a1)"), ["more", "close"], ["f(a0)", "f(a1)"]),
            ("none", ("ask", "a"), ["item", "none"], ["f(a0)", "f(a1)"]),
            ("", ("end",), [], ["f(a0)", "f(a1)"]),
        ]
        events = []
        for word, event, replies, given in rows:
            events.append(event)
            self.assertEqual(told(walk), (event, events, replies, given))
            if word:
                self.assertIsNone(walk.reply(word))

    def test_kinds_of_events(self):
        for program, words, event, replies in KINDS:
            walk = walked(program, words)
            self.assertTrue(same(walk.event, event))
            self.assertTrue(same(walk.replies, replies))
            self.assertEqual(len(walk.events), len(words.split()) + 1)
            self.assertTrue(same(walk.events[-1], event))

    def test_arguments_by_name(self):
        walk = Walk(program=PROGRAM)
        walk.reply(word="item")
        self.assertTrue(walk.like(other=walk.fork()))
        self.assertEqual(run(program=PROGRAM, replies=["item"]), walk.events)

    def test_lists_that_the_caller_changes(self):
        for program, words, event, replies in KINDS:
            walk = walked(program, words)
            before = told(walk)
            for row in told(walk)[1:]:
                row.append("more")
                row.reverse()
                row.clear()
            self.assertEqual(told(walk), before)
            for word in replies:
                self.assertIsNone(walk.fork().reply(word))

    def test_the_program_stays(self):
        stages = PROGRAM.stages
        walked(PROGRAM, "item yes done more")
        self.assertEqual(PROGRAM.stages, stages)

    def test_several_walks_over_one_program(self):
        walks = [Walk(PROGRAM) for _ in range(3)]
        walks[0].reply("item")
        walks[1].reply("none")
        walks[0].reply("no")
        self.assertEqual([walk.event for walk in walks], [("ask", "a"), ("end",), ("ask", "a")])
        walks[0].reply("item")
        walks[2].reply("item")
        self.assertEqual([walk.event for walk in walks], [("test", "p", "a1"), ("end",), ("test", "p", "a0")])
        self.assertEqual(walks[2].replies, ["yes", "no", "fails"])


class BadReplyTest(unittest.TestCase):
    def test_any_value_that_can_not_be_replied(self):
        for program, words, event, replies in KINDS:
            walk = walked(program, words)
            before = told(walk)
            values = WORDS + any_values() + [event, replies, [replies], walk, "Item", "item ", "it", "yes\n", "fail"]
            for value in values:
                if isinstance(value, str) and value in replies:
                    continue
                error = error_of(walk.reply, value)
                self.assertIs(type(error), BadReply, (event, value))
                self.assertIs(error.value, value)
                self.assertEqual(told(walk), before)
            for word in replies:
                self.assertIsNone(walk.fork().reply(word))

    def test_the_walk_goes_on_as_if_nothing_had_been(self):
        wrong = walked(PROGRAM, "item")
        for value in ("item", "none", "done", "more", None, 0, []):
            error_of(wrong.reply, value)
        right = walked(PROGRAM, "item")
        for word in "yes done more item no item yes fails".split():
            wrong.reply(word)
            right.reply(word)
            self.assertEqual(told(wrong), told(right))


class ForkTest(unittest.TestCase):
    def test_it_stands_alike(self):
        for program, words, _, _ in KINDS:
            walk = walked(program, words)
            fork = walk.fork()
            self.assertIsInstance(fork, Walk)
            self.assertEqual(told(fork), told(walk))

    def test_each_one_goes_its_own_way(self):
        walk = walked(PROGRAM, "item yes done more")
        before = told(walk)
        forks = [walk.fork(), walk.fork()]
        forks[0].reply("item")
        forks[1].reply("none")
        self.assertEqual(told(walk), before)
        self.assertEqual([fork.event for fork in forks], [("test", "p", "a1"), ("end",)])
        walk.reply("item")
        walk.reply("no")
        walk.reply("item")
        self.assertEqual((walk.event, forks[0].event), (("test", "p", "a2"), ("test", "p", "a1")))
        self.assertEqual(forks[1].given, ["f(a0)"])

    def test_replies_bind_in_the_fork_alone(self):
        walk = walked(Program("a", [("keep", "p"), ("gather", 2), ("keep", "p")]), "item")
        fork = walk.fork()
        fork.reply("yes")
        fork.reply("none")
        self.assertEqual((fork.event, fork.replies), (("test", "p", "a0"), ["yes"]))
        self.assertEqual((walk.event, walk.replies), (("test", "p", "a0"), ["yes", "no", "fails"]))
        further = fork.fork()
        self.assertEqual(further.replies, ["yes"])
        further.reply("yes")
        self.assertEqual((further.event, fork.event), (("give", "a0"), ("test", "p", "a0")))

    def test_numbers_of_items(self):
        walk = walked(Program("a", [("zip", Program("b"))]), "item item more item")
        fork = walk.fork()
        fork.reply("item")
        fork.reply("more")
        walk.reply("item")
        self.assertEqual((walk.event, walk.given), (("give", "[a1, b1]"), ["[a0, b0]", "[a1, b1]"]))
        fork.reply("item")
        fork.reply("item")
        self.assertEqual(fork.event, ("give", "[a2, b2]"))


class BoundTest(unittest.TestCase):
    def replies(self, stages, words):
        walk = walked(Program("a", stages), words)
        return [" ".join(walk.event)] + walk.replies

    def test_the_same_test_twice(self):
        for first in ("keep", "while", "after"):
            for second in ("keep", "while", "after"):
                self.assertEqual(self.replies([(first, "p"), (second, "p")], "item"), ["test p a0", "yes", "no", "fails"])
                self.assertEqual(self.replies([(first, "p"), (second, "p")], "item yes"), ["test p a0", "yes"])
                self.assertEqual(self.replies([(first, "p"), (second, "p")], "item yes yes"), ["give a0", "more", "close"])
                self.assertEqual(self.replies([(first, "p"), ("skip", 1), (second, "p")], "item yes")[0], "ask a")
        self.assertEqual(self.replies([("keep", "p")] * 3, "item no item yes yes"), ["test p a1", "yes"])

    def test_things_that_are_made_again(self):
        self.assertEqual(self.replies([("keep", "p"), ("lots", 1), ("flat",), ("keep", "p")], "item yes"), ["test p a0", "yes"])
        stages = [("lots", 2), ("keep", "p"), ("flat",), ("lots", 2), ("keep", "p")]
        self.assertEqual(self.replies(stages, "item item yes"), ["test p [a0, a1]", "yes"])
        self.assertEqual(self.replies(stages, "item item no item none"), ["test p [a2]", "yes", "no", "fails"])
        stages = [("lots", 2), ("keep", "p"), ("flat",), ("skip", 1), ("lots", 2), ("keep", "p")]
        self.assertEqual(self.replies(stages, "item item yes item item yes"), ["test p [a1, a2]", "yes", "no", "fails"])

    def test_other_things_and_other_names(self):
        free = ["yes", "no", "fails"]
        self.assertEqual(self.replies([("keep", "p"), ("keep", "q")], "item yes"), ["test q a0"] + free)
        self.assertEqual(self.replies([("keep", "p"), ("lots", 1), ("keep", "p")], "item yes"), ["test p [a0]"] + free)
        self.assertEqual(self.replies([("keep", "p"), ("map", "f"), ("keep", "p")], "item yes done"), ["test p f(a0)"] + free)
        self.assertEqual(self.replies([("keep", "p"), ("keep", "p")], "item yes yes more item"), ["test p a1"] + free)
        self.assertEqual(self.replies([("after", "p"), ("keep", "p")], "item yes yes more item"), ["test p a1"] + free)

    def test_a_call_and_a_test_of_one_name(self):
        self.assertEqual(self.replies([("keep", "f"), ("map", "f")], "item yes"), ["call f a0", "done", "fails"])
        self.assertEqual(self.replies([("keep", "f"), ("map", "f"), ("keep", "f")], "item yes done"),
                         ["test f f(a0)", "yes", "no", "fails"])
        self.assertEqual(self.replies([("keep", "f"), ("keep", "f"), ("map", "f")], "item yes yes"),
                         ["call f a0", "done", "fails"])
        self.assertEqual(self.replies([("map", "f"), ("map", "f")], "item done"), ["call f f(a0)", "done", "fails"])

    def test_within_zips(self):
        keep = ("keep", "p")
        stages = [keep, ("zip", Program("b", [keep, ("gather", 2), keep])), ("flat",), keep]
        self.assertEqual(self.replies(stages, "item yes item"), ["test p b0", "yes", "no", "fails"])
        self.assertEqual(self.replies(stages, "item yes item yes none"), ["test p b0", "yes"])
        self.assertEqual(self.replies(stages, "item yes item yes none yes"), ["test p a0", "yes"])
        self.assertEqual(self.replies(stages, "item yes item yes none yes yes more"), ["test p b0", "yes"])
        stages = [("zip", Program("b", [("zip", Program("c", [keep])), ("flat",), keep]))]
        self.assertEqual(self.replies(stages, "item item item yes"), ["test p b0", "yes", "no", "fails"])
        self.assertEqual(self.replies(stages, "item item item yes no"), ["test p c0", "yes"])

    def test_a_source_that_has_ended(self):
        stages = [("gather", 2), ("zip", Program("b", [("gather", 2)])), ("flat",)]
        self.assertEqual(self.replies(stages, "item none item none"), ["give a0", "more", "close"])
        self.assertEqual(self.replies(stages, "item none item none more more"), ["end"])


class RunTest(unittest.TestCase):
    def test_right_rows(self):
        self.assertEqual(run(PROGRAM, []), [("ask", "a")])
        for program, words, event, _ in KINDS:
            events = run(program, words.split())
            self.assertEqual(events, walked(program, words).events)
            self.assertTrue(same(events[-1], event))

    def test_the_list_of_replies_stays(self):
        row = ["item", "yes", "done"]
        run(PROGRAM, row)
        self.assertEqual(row, ["item", "yes", "done"])
        row.append(["x"])
        error_of(run, PROGRAM, row)
        self.assertEqual(row, ["item", "yes", "done", ["x"]])

    def test_the_list_of_events_is_new(self):
        run(PROGRAM, ["item"]).clear()
        self.assertEqual(run(PROGRAM, ["item"]), [("ask", "a"), ("test", "p", "a0")])

    def assert_bad(self, program, row, position):
        error = error_of(run, program, row)
        self.assertIs(type(error), BadReplies, row)
        self.assertTrue(same(error.position, position), row)

    def test_any_value_at_any_position(self):
        row = "item yes done more item no".split()
        for position in range(len(row)):
            for value in any_values() + ["Item", "nome", "yes ", ["item"], ("item",)]:
                self.assert_bad(PROGRAM, row[:position] + [value] + row[position + 1:], position)
                self.assert_bad(PROGRAM, row[:position] + [value, value], position)
                self.assert_bad(PROGRAM, row[:position] + [value] + row[position:], position)

    def test_words_changed_put_in_left_out_and_doubled(self):
        row = "item yes done more item no item fails".split()
        for position, right in enumerate(row):
            replies = walked(PROGRAM, " ".join(row[:position])).replies
            for word in WORDS:
                if word not in replies:
                    self.assert_bad(PROGRAM, row[:position] + [word] + row[position + 1:], position)
                    self.assert_bad(PROGRAM, row[:position] + [word] + row[position:], position)
        self.assert_bad(PROGRAM, "item done more".split(), 1)
        self.assert_bad(PROGRAM, "yes done more".split(), 0)
        self.assert_bad(PROGRAM, "item yes done item no".split(), 3)
        self.assert_bad(PROGRAM, "item item yes".split(), 1)
        self.assert_bad(PROGRAM, "item yes yes done".split(), 2)
        self.assert_bad(PROGRAM, "item yes done more more".split(), 4)

    def test_too_many(self):
        for program, words, _, replies in KINDS:
            if not replies:
                for value in WORDS + any_values():
                    self.assert_bad(program, words.split() + [value], len(words.split()))

    def test_replies_that_are_bound(self):
        twice = Program("a", [("keep", "p"), ("keep", "p")])
        self.assertEqual(run(twice, ["item", "yes", "yes"])[-1], ("give", "a0"))
        for word in ("no", "fails"):
            self.assert_bad(twice, ["item", "yes", word], 2)
        self.assertEqual(run(twice, ["item", "no", "item", "yes", "yes"])[-1], ("give", "a1"))


if __name__ == "__main__":
    unittest.main()
