"""Points [3] to [5]: all runs of many programs, beside the reference."""

import unittest

from pulledonce.programs import Program
from pulledonce.walks import Walk, run
from tests.brute import programs, replies_after, runs
from tests.reference import reference_events

WIDE = [
    ("map", "f"), ("keep", "p"), ("while", "p"), ("after", "p"), ("take", 1), ("take", 2), ("skip", 1), ("skip", 2),
    ("lots", 1), ("lots", 2), ("flat",), ("gather", 1), ("gather", 2), ("zip", Program("b")),
    ("zip", Program("c", [("take", 1)])), ("zip", Program("d", [("lots", 2)])),
]
NARROW = [
    ("keep", "p"), ("take", 2), ("skip", 2), ("lots", 2), ("flat",), ("gather", 3), ("zip", Program("b", [("after", "p")])),
]
LONG = [
    [("lots", 4), ("flat",), ("skip", 4), ("lots", 3), ("gather", 2), ("flat",)],
    [("gather", 3), ("zip", Program("b", [("take", 2)])), ("flat",), ("map", "f")],
    [("lots", 2), ("zip", Program("b", [("zip", Program("c"))])), ("flat",), ("flat",), ("zip", Program("d")), ("flat",)],
    [("lots", 2), ("zip", Program("b", [("lots", 2)])), ("flat",), ("lots", 2), ("flat",), ("flat",)],
    [("keep", "p"), ("keep", "p"), ("lots", 2), ("keep", "p"), ("flat",), ("keep", "p")],
    [("lots", 1), ("keep", "p"), ("flat",), ("lots", 1), ("keep", "p"), ("while", "p")],
    [("map", "f"), ("map", "g"), ("lots", 2), ("map", "f")],
]


class ReferenceTest(unittest.TestCase):
    def compare(self, program, most):
        """Goes through all rows of replies up to a length, with forks of one walk."""
        todo = [(Walk(program), ())]
        for _ in range(most + 1):
            longer = []
            for walk, words in todo:
                events = reference_events(program, words)
                self.assertEqual(walk.events, events, (program.stages, words))
                self.assertEqual(walk.event, events[-1])
                self.assertEqual(walk.replies, replies_after(events, words))
                self.assertEqual(walk.given, [event[1] for event in events if event[0] == "give"])
                for word in walk.replies:
                    fork = walk.fork()
                    fork.reply(word)
                    longer.append((fork, words + (word,)))
            todo = longer

    def test_short_programs(self):
        for program in programs(WIDE, 2):
            self.compare(program, 16)

    def test_programs_of_three_stages(self):
        for program in programs(NARROW, 3):
            self.compare(program, 14)

    def test_long_programs(self):
        for stages in LONG:
            self.compare(Program("a", stages), 30)

    def test_runs_at_once(self):
        for program in programs(NARROW, 2):
            for words, events in runs(program, 6):
                self.assertEqual(run(program, list(words)), events)

    def test_no_source_is_asked_again_that_has_ended(self):
        for stages in LONG:
            for words, events in runs(Program("a", stages), 14):
                ended = [event for event, word in zip(events, words) if word == "none"]
                self.assertEqual(len(ended), len(set(ended)))
                self.assertFalse(words and events[-1] in ended)


if __name__ == "__main__":
    unittest.main()
