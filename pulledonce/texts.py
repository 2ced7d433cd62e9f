"""The texts of programs, a line for each source and stage."""

from pulledonce.errors import BadText, StreamError
from pulledonce.programs import GREATEST_NUMBER, SOURCES, STAGES_WITH_NAME, STAGES_WITH_NUMBER, Program

INDENT = "  "


def program_text(program):
    """The text of a program."""
    return "\n".join(program_lines(program))


def program_lines(program):
    lines = ["from " + program.source]
    for stage in program.stages:
        lines.extend(stage_lines(stage))
    return lines


def stage_lines(stage):
    if stage[0] == "zip":
        return ["zip"] + [INDENT + line for line in program_lines(stage[1])]
    return [" ".join([f"{part}" for part in stage])]


def stage_of_words(words):
    """The stage, but for a zip, of a line with some words, or None; whether it can stand there is not asked."""
    if words == ["flat"]:
        return ("flat",)
    if len(words) != 2:
        return None
    kind, detail = words
    if kind in STAGES_WITH_NAME:
        return (kind, detail)
    numbers = [number for number in range(1, GREATEST_NUMBER + 1) if detail == f"{number}"]
    return (kind, numbers[0]) if kind in STAGES_WITH_NUMBER and numbers else None


class Reader:
    """Reads the lines of a text, one by one.

    programs has the program that is read and, ahead of it, those in whose zips it stands,
    without these zips; opens tells whether the line before is a zip, whose program begins now.
    """

    def __init__(self):
        self.programs = []
        self.opens = True

    def free_sources(self):
        taken = [source for program in self.programs for source in program.sources]
        return [source for source in SOURCES if source not in taken]

    def read_line(self, line):
        """Reads a line, and returns whether some text goes on with it."""
        words = line.lstrip(" ").split(" ")
        blanks = len(line) - len(line.lstrip(" "))
        depth = blanks // len(INDENT)
        if depth * len(INDENT) != blanks:
            return False
        if self.opens:
            return depth == len(self.programs) and self.read_source(words)
        if depth >= len(self.programs):
            return False
        while depth < len(self.programs) - 1:
            self.close()
        return self.read_stage(words)

    def read_source(self, words):
        if len(words) != 2 or words[0] != "from" or words[1] not in self.free_sources():
            return False
        self.programs.append(Program(words[1]))
        self.opens = False
        return True

    def read_stage(self, words):
        if words == ["zip"]:
            return self.read_zip()
        stage = stage_of_words(words)
        if stage is None or not can_follow(self.programs[-1], stage):
            return False
        self.programs.append(self.programs.pop().then(stage))
        return True

    def read_zip(self):
        free = self.free_sources()
        # The zip's program can have at least a source, or else no text goes on here.
        self.opens = len(free) > 0 and can_follow(self.programs[-1], ("zip", Program(free[0])))
        return self.opens

    def close(self):
        """The program that is read has ended: it is the one of a zip."""
        inner = self.programs.pop()
        self.programs.append(self.programs.pop().then(("zip", inner)))

    def all_read(self):
        """The program of all lines."""
        while len(self.programs) > 1:
            self.close()
        return self.programs[0]


def can_follow(program, stage):
    """Whether a stage can stand behind a program."""
    try:
        program.then(stage)
    except StreamError:
        return False
    return True


def read_program(text):
    """The program with a text, which may be any value."""
    if not isinstance(text, str):
        raise BadText(1)
    reader = Reader()
    lines = text.split("\n")
    for at, line in enumerate(lines):
        if not reader.read_line(line):
            raise BadText(at + 1)
    if reader.opens:
        raise BadText(len(lines) + 1)
    return reader.all_read()
