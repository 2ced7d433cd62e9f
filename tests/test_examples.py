"""The examples of the interface in the document, as they are written there."""

import unittest

from pulledonce.errors import BadStage


class StageOneTest(unittest.TestCase):
    def test_examples(self):
        from pulledonce.programs import Program
        program = Program("a", [("keep", "p"), ("map", "f")])
        self.assertEqual(
            [program.source, program.sources, program.depth, program.then(("lots", 2)).depth,
             program.without([0]).stages],
            ["a", ("a",), 0, 1, (("map", "f"),)],
        )
        with self.assertRaises(BadStage) as seen:
            Program("a", [("lots", 2), ("map", "f"), ("flat",)])
        self.assertEqual(seen.exception.position, 2)
        with self.assertRaises(BadStage) as seen:
            Program("a", [("zip", Program("b")), ("zip", Program("b"))])
        self.assertEqual(seen.exception.position, 1)


if __name__ == "__main__":
    unittest.main()
