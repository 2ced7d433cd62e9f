"""program_text and read_program of the interface."""

import random
import unittest

from pulledonce.errors import BadText, StreamError
from pulledonce.programs import Program
from pulledonce.texts import program_text, read_program
from tests.brute import drawn_program
from tests.support import any_values, error_of, same

DEEP = Program("d", [
    ("zip", Program("a", [("map", "f"), ("zip", Program("c", [("zip", Program("b")), ("flat",)])), ("take", 1)])),
    ("lots", 4), ("flat",),
])
DEEP_TEXT = """from d
zip
  from a
  map f
  zip
    from c
    zip
      from b
    flat
  take 1
lots 4
flat"""

TEXTS = [
    (Program("a"), "from a"),
    (Program("b", [("map", "f")]), "from b\nmap f"),
    (Program("c", [("keep", "abcdefgh"), ("while", "z")]), "from c\nkeep abcdefgh\nwhile z"),
    (Program("d", [("after", "from"), ("map", "flat"), ("map", "zip"), ("keep", "keep")]),
     "from d\nafter from\nmap flat\nmap zip\nkeep keep"),
    (Program("a", [("take", 1), ("skip", 2), ("lots", 3), ("gather", 4), ("flat",), ("map", "a")]),
     "from a\ntake 1\nskip 2\nlots 3\ngather 4\nflat\nmap a"),
    (Program("a", [("zip", Program("b", [("take", 2)])), ("flat",)]), "from a\nzip\n  from b\n  take 2\nflat"),
    (Program("a", [("zip", Program("b"))]), "from a\nzip\n  from b"),
    (Program("a", [("zip", Program("b")), ("zip", Program("c")), ("zip", Program("d"))]),
     "from a\nzip\n  from b\nzip\n  from c\nzip\n  from d"),
    (Program("a", [("zip", Program("b", [("zip", Program("c", [("zip", Program("d", [("lots", 1)]))]))]))]),
     "from a\nzip\n  from b\n  zip\n    from c\n    zip\n      from d\n      lots 1"),
    (DEEP, DEEP_TEXT),
]
LINES = [
    "", " ", "  ", "from a", "from b", "from c", "from d", "from e", "from", "from ", "from ab", "from A", "From a", "flat",
    "flat ", " flat", "flat 1", "zip", "zip ", "zip b", "Zip", "map f", "map", "map ", "map F", "map f g", "map  f", "map f ",
    "map abcdefgh", "map abcdefghi", "map 1", "map f1", "keep p", "while p", "after p", "keep", "take 1", "take 4", "take 0",
    "take 5", "take 01", "take +1", "take -1", "take 1 ", "take  1", "take", "take a", "take 1 1", "take 10", "skip 2",
    "lots 3", "gather 4", "lots 5", "gather f", "end", "ask a", "a", "~", "(", "take 1,", "('flat',)",
]


def parsed(lines):
    """The program of some lines, without care for what only looks like it, or None."""
    if not lines or lines[0][:5] != "from ":
        return None
    try:
        program = Program(lines[0][5:])
        at = 1
        while at < len(lines):
            words = lines[at].split()
            at += 1
            if words == ["zip"]:
                inner = []
                while at < len(lines) and lines[at][:2] == "  ":
                    inner.append(lines[at][2:])
                    at += 1
                stage = ("zip", parsed(inner))
            else:
                stage = tuple(int(word) if word.isdigit() else word for word in words)
            program = program.then(stage)
        return program
    except StreamError:
        return None


def is_text(lines):
    program = parsed(lines)
    return program is not None and program_text(program).split("\n") == lines


def begins_a_text(lines):
    """Whether some text begins with the lines: they are one, or their last one is a zip whose program is left to say."""
    blanks = " " * (len(lines[-1]) - len(lines[-1].lstrip(" ")) + 2)
    return is_text(lines) or any(is_text(lines + [blanks + "from " + source]) for source in "abcd")


def bad_line(text):
    """The number that BadText is to have, or None if the text is one of a program."""
    lines = text.split("\n")
    if is_text(lines):
        return None
    bad = [many for many in range(1, len(lines) + 1) if not begins_a_text(lines[:many])]
    return bad[0] if bad else len(lines) + 1


class TextTest(unittest.TestCase):
    def assert_bad(self, value, line):
        error = error_of(read_program, value)
        self.assertIs(type(error), BadText, value)
        self.assertTrue(same(error.line, line), (value, error.line, line))

    def check(self, text):
        """Reads a text that may be wrong."""
        line = bad_line(text)
        if line is not None:
            self.assert_bad(text, line)
            return 1
        program = read_program(text)
        self.assertIs(type(program), Program)
        self.assertEqual(program_text(program), text)
        return 0


class RightTest(TextTest):
    def test_texts(self):
        for program, text in TEXTS:
            self.assertEqual(program_text(program), text)
            self.assertEqual(read_program(text), program)
            self.assertEqual(program_text(program=read_program(text=text)), text)

    def test_each_kind_of_stage(self):
        for kind in ("map", "keep", "while", "after"):
            for name in ("f", "abcdefgh", "zip", "from", "flat", "map"):
                self.assertEqual(program_text(Program("a", [(kind, name)])), f"from a\n{kind} {name}")
                self.assertEqual(read_program(f"from a\n{kind} {name}").stages, ((kind, name),))
        for kind in ("take", "skip", "lots", "gather"):
            for n in (1, 2, 3, 4):
                self.assertEqual(program_text(Program("a", [(kind, n)])), f"from a\n{kind} {n}")
                self.assertTrue(same(read_program(f"from a\n{kind} {n}").stages, ((kind, n),)))

    def test_none_and_six_stages(self):
        for source in "abcd":
            for many in range(7):
                program = Program(source, [("lots", 1), ("flat",), ("map", "f"), ("lots", 4), ("flat",), ("skip", 2)][:many])
                self.assertEqual(read_program(program_text(program)), program)
                self.assertEqual(len(program_text(program).split("\n")), many + 1)
        zips = Program("a", [("zip", Program("b", [("map", "g")] * 6))] + [("map", "f")] * 5)
        self.assertEqual(read_program(program_text(zips)), zips)

    def test_drawn_programs(self):
        draw = random.Random(9)
        for _ in range(1000):
            program = drawn_program(draw)
            self.assertEqual(read_program(program_text(program)), program)
            self.assertIsNone(bad_line(program_text(program)))


class WrongTest(TextTest):
    def test_values_that_are_no_strings(self):
        for value in any_values():
            if not isinstance(value, str):
                self.assert_bad(value, 1)

    def test_strings_that_are_no_texts(self):
        for value in any_values() + ["from", "zip", "flat", "\n\n", " from a", "  from a", "from a b", "from a;", "FROM a"]:
            if isinstance(value, str):
                self.assert_bad(value, 1)

    def test_known_lines(self):
        self.assert_bad("", 1)
        self.assert_bad("from a\n", 2)
        self.assert_bad("\nfrom a", 1)
        self.assert_bad("from a\n\nmap f", 2)
        self.assert_bad("from a\nmap f\n\n", 3)
        self.assert_bad("from a\nmap f ", 2)
        self.assert_bad("from a\nflat", 2)
        self.assert_bad("from a\nmap f\nflat", 3)
        self.assert_bad("from a\nlots 2\nkeep p\nflat\nflat", 5)
        self.assert_bad("from a\nlots 2\nzip\n  from b\nflat\nflat", 6)
        self.assert_bad("from a\nzip\n  from b\n  flat", 4)
        self.assert_bad("from a\nzip", 3)
        self.assert_bad("from a\nzip\n  from b\n  zip", 5)
        self.assert_bad("from a\nzip\nmap f", 3)
        self.assert_bad("from a\nzip\nfrom b", 3)
        self.assert_bad("from a\nzip\n  map f", 3)
        self.assert_bad("from a\nzip\n   from b", 3)
        self.assert_bad("from a\nzip\n    from b", 3)
        self.assert_bad("from a\nzip\n from b", 3)
        self.assert_bad("from a\nzip\n  from a", 3)
        self.assert_bad("from a\n  from b", 2)
        self.assert_bad("from a\n  map f", 2)
        self.assert_bad("from a\nfrom b", 2)
        self.assert_bad("from a\nfrom a", 2)

    def test_a_source_twice(self):
        self.assert_bad("from a\nzip\n  from b\nzip\n  from b", 5)
        self.assert_bad("from a\nzip\n  from b\n  zip\n    from c\nzip\n  from c", 7)
        self.assert_bad("from a\nzip\n  from b\n  zip\n    from a", 5)
        self.assert_bad("from a\nzip\n  from b\n  zip\n    from b", 5)
        self.assert_bad("from a\nzip\n  from b\nzip\n  from c\n  zip\n    from b", 7)

    def test_a_zip_for_which_no_source_is_left(self):
        four = "from a\nzip\n  from b\nzip\n  from c\nzip\n  from d"
        self.assertIsNone(error_of(read_program, four))
        self.assert_bad(four + "\nzip", 8)
        self.assert_bad(four + "\nzip\n  from a", 8)
        self.assert_bad(four + "\n  zip", 8)
        self.assert_bad(four + "\nmap f\nzip\nmap f", 9)
        self.assert_bad("from a\nzip\n  from b\n  zip\n    from c\n    zip\n      from d\n      zip", 8)
        self.assert_bad("from a\nzip\n  from b\n  zip\n    from c\n    zip\n      from d\n    zip", 8)
        self.assert_bad("from a\nzip\n  from b\n  zip\n    from c\n    zip", 7)

    def test_too_many_stages(self):
        six = "from a" + "\nmap f" * 6
        self.assertIsNone(error_of(read_program, six))
        for line in ("map f", "zip", "flat", "take 1", "map F", ""):
            self.assert_bad(six + "\n" + line, 8)
        inner = "from a\nzip\n  from b" + "\n  map f" * 6
        self.assert_bad(inner + "\n  map f", 10)
        self.assert_bad(inner + "\n  zip\n    from c", 10)
        self.assertIsNone(error_of(read_program, inner + "\nmap f" * 5))
        self.assert_bad(inner + "\nmap f" * 6, 15)
        five = "from a" + "\nmap f" * 5
        self.assert_bad(five + "\nzip", 8)
        self.assertIsNone(error_of(read_program, five + "\nzip\n  from b"))
        self.assert_bad(five + "\nzip\n  from b\nmap f", 9)

    def test_a_program_that_has_ended(self):
        self.assert_bad("from a\nzip\n  from b\nmap f\n  map f", 5)
        self.assert_bad("from a\nzip\n  from b\n  zip\n    from c\nmap f\n    map g", 7)
        self.assert_bad("from a\nzip\n  from b\n  zip\n    from c\n  map f\n    map g", 7)
        self.assert_bad("from a\nzip\n  from b\n    map f", 4)
        self.assert_bad("from a\nzip\n  from b\n map f", 4)


class ChangedTest(TextTest):
    def test_one_line_changed(self):
        wrong = 0
        for _, text in TEXTS:
            lines = text.split("\n")
            for at, line in enumerate(lines):
                blanks = " " * (len(line) - len(line.lstrip(" ")))
                for other in LINES:
                    for ahead in (blanks, "", blanks + " ", blanks + "  ", blanks[2:]):
                        wrong += self.check("\n".join(lines[:at] + [ahead + other] + lines[at + 1:]))
                        wrong += self.check("\n".join(lines[:at] + [ahead + other] + lines[at:]))
        self.assertGreater(wrong, 1000)

    def test_lines_left_out_doubled_exchanged_and_cut_off(self):
        for _, text in TEXTS:
            lines = text.split("\n")
            for at in range(len(lines)):
                self.check("\n".join(lines[:at] + lines[at + 1:]))
                self.check("\n".join(lines[:at + 1] + lines[at:]))
                self.check("\n".join(lines[:at]))
                self.check("\n".join(lines[at:]))
                for other in range(at):
                    moved = list(lines)
                    moved[at], moved[other] = moved[other], moved[at]
                    self.check("\n".join(moved))

    def test_lines_moved_in_and_out(self):
        for _, text in TEXTS:
            lines = text.split("\n")
            for at in range(len(lines)):
                for moved in (" " + lines[at], "  " + lines[at], "    " + lines[at], lines[at][1:], lines[at][2:],
                              lines[at] + " ", lines[at][:-1]):
                    self.check("\n".join(lines[:at] + [moved] + lines[at + 1:]))
                self.check("\n".join(lines[:at] + ["  " + line for line in lines[at:]]))

    def test_one_sign_changed(self):
        for _, text in TEXTS:
            for at in range(len(text)):
                for sign in ("", " ", "\n", "a", "z", "1", "5", "~"):
                    self.check(text[:at] + sign + text[at + 1:])
                    self.check(text[:at] + sign + text[at:])
            for many in range(len(text)):
                self.check(text[:many])
            for more in ("\n", " ", "\n ", "\n\n", "\nflat", "\n  flat", "\nzip"):
                self.check(text + more)
                self.check(more + text)

    def test_drawn_texts(self):
        draw = random.Random(10)
        for _ in range(2000):
            lines = program_text(drawn_program(draw)).split("\n")
            for _ in range(draw.randrange(1, 3)):
                at = draw.randrange(len(lines))
                lines[at:at + draw.randrange(2)] = [" " * draw.choice([0, 0, 1, 2, 2, 4]) + draw.choice(LINES)]
            self.check("\n".join(lines))

    def test_the_check_itself(self):
        self.assertEqual([bad_line(text) for text in ("from a", "from a\nzip", "", "from a\n", "from a\nmap f\nflat")],
                         [None, 3, 1, 2, 3])


if __name__ == "__main__":
    unittest.main()
