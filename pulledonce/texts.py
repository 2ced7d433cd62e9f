"""The texts of programs, a line for each source and stage."""

from pulledonce.errors import BadText, StreamError
from pulledonce.programs import SOURCES, STAGES_WITH_NUMBER, Program

INDENT = "  "

# Numbers are written in this way alone.
NUMBERS = {"1": 1, "2": 2, "3": 3, "4": 4}


def program_text(program):
    """The text of a program."""
    return "\n".join(program_lines(program))


def program_lines(program):
    lines = ["from " + program.source]
    for stage in program.stages:
        lines.extend(stage_lines(stage))
    return lines


def stage_lines(stage):
    if stage[0] == "zip":
        return ["zip"] + [INDENT + line for line in program_lines(stage[1])]
    return [" ".join([f"{part}" for part in stage])]


def stage_of_words(words):
    """What the words of a line tell, which may be no stage; a zip needs more lines."""
    if len(words) == 2 and words[0] in STAGES_WITH_NUMBER:
        return (words[0], NUMBERS.get(words[1]))
    return tuple(words)


class Reader:
    """Reads the lines of a text, one by one.

    programs has the program that is read and, ahead of it, those in whose zips it stands,
    without these zips; opens tells whether the line before is a zip, whose program begins now.
    """

    def __init__(self):
        self.programs = []
        self.opens = True

    def free_sources(self):
        taken = [source for program in self.programs for source in program.sources]
        return [source for source in SOURCES if source not in taken]

    def read_line(self, line):
        """Reads a line, and returns whether some text goes on with it."""
        words = line.lstrip(" ").split(" ")
        blanks = len(line) - len(line.lstrip(" "))
        depth = blanks // len(INDENT)
        if depth * len(INDENT) != blanks:
            return False
        if self.opens:
            return depth == len(self.programs) and self.read_source(words)
        if depth >= len(self.programs):
            return False
        while depth < len(self.programs) - 1:
            self.close()
        return self.read_stage(words)

    def read_source(self, words):
        if len(words) != 2 or words[0] != "from" or words[1] not in self.free_sources():
            return False
        self.programs.append(Program(words[1]))
        self.opens = False
        return True

    def read_stage(self, words):
        if words == ["zip"]:
            return self.read_zip()
        stage = stage_of_words(words)
        if not can_follow(self.programs[-1], stage):
            return False
        self.programs.append(self.programs.pop().then(stage))
        return True

    def read_zip(self):
        free = self.free_sources()
        # The zip's program can have at least a source, or else no text goes on here.
        self.opens = len(free) > 0 and can_follow(self.programs[-1], ("zip", Program(free[0])))
        return self.opens

    def close(self):
        """The program that is read has ended: it is the one of a zip."""
        inner = self.programs.pop()
        self.programs.append(self.programs.pop().then(("zip", inner)))

    def all_read(self):
        """The program of all lines."""
        while len(self.programs) > 1:
            self.close()
        return self.programs[0]


def can_follow(program, stage):
    """Whether a stage can stand behind a program."""
    try:
        program.then(stage)
    except StreamError:
        return False
    return True


def read_program(text):
    """The program with a text, which may be any value."""
    if not isinstance(text, str):
        raise BadText(1)
    reader = Reader()
    lines = text.split("\n")
    for at, line in enumerate(lines):
        if not reader.read_line(line):
            raise BadText(at + 1)
    if reader.opens:
        raise BadText(len(lines) + 1)
    return reader.all_read()
