"""The examples of README.md."""

import doctest
import os
import unittest

README = os.path.join(os.path.dirname(os.path.dirname(os.path.abspath(__file__))), "README.md")


class ReadmeTest(unittest.TestCase):
    def test_examples(self):
        failed, many = doctest.testfile(README, module_relative=False, verbose=False)
        self.assertEqual(failed, 0)
        self.assertGreater(many, 10)


if __name__ == "__main__":
    unittest.main()
