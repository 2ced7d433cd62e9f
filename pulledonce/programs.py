"""Programs: a source, and up to six stages, one behind the other."""

from pulledonce.errors import BadPositions, BadSource, BadStage, BadStages

SOURCES = ("a", "b", "c", "d")
MOST_STAGES = 6
MOST_LETTERS = 8
GREATEST_NUMBER = 4
STAGES_WITH_NAME = ("map", "keep", "while", "after")
STAGES_WITH_NUMBER = ("take", "skip", "lots", "gather")


def is_integer(value):
    """Python takes True and False for ints; here they are no integers."""
    return isinstance(value, int) and not isinstance(value, bool)


def is_name(value):
    return (
        isinstance(value, str)
        and 1 <= len(value) <= MOST_LETTERS
        and all(["a" <= letter <= "z" for letter in value])
    )


def is_stage_number(value):
    return is_integer(value) and 1 <= value <= GREATEST_NUMBER


def is_stage(value):
    """Whether any value has the form of a stage, wherever it may stand."""
    if not isinstance(value, tuple) or len(value) not in (1, 2):
        return False
    if len(value) == 1:
        return value[0] == "flat"
    kind, detail = value
    if kind in STAGES_WITH_NAME:
        return is_name(detail)
    if kind in STAGES_WITH_NUMBER:
        return is_stage_number(detail)
    return kind == "zip" and isinstance(detail, Program)


def sources_of_stage(stage):
    return stage[1].sources if stage[0] == "zip" else ()


def can_stand(stage, depth, sources):
    """Whether a stage can stand behind a depth, where the sources are in use already."""
    if stage[0] == "flat":
        return depth > 0
    return not any([source in sources for source in sources_of_stage(stage)])


def depth_behind(stage, depth):
    """The depth behind a stage that has a depth before it."""
    kind = stage[0]
    if kind == "map":
        return 0
    if kind == "lots":
        return depth + 1
    if kind == "flat":
        return depth - 1
    if kind == "zip":
        return min(depth, stage[1].depth) + 1
    return depth


def is_position(value, many):
    """Whether any value is one of the positions 0, 1, .. of so many."""
    return is_integer(value) and 0 <= value < many


def are_positions(value, many):
    """Whether any value is a list of different positions of so many."""
    return (
        isinstance(value, list)
        and all([is_position(entry, many) for entry in value])
        and len(set(value)) == len(value)
    )


class Program:
    """A source and its stages; a program never changes."""

    def __init__(self, source, stages=()):
        if source not in SOURCES:
            raise BadSource(source)
        if not isinstance(stages, (list, tuple)) or len(stages) > MOST_STAGES:
            raise BadStages(stages)
        sources = [source]
        depth = 0
        for position, stage in enumerate(stages):
            if not is_stage(stage) or not can_stand(stage, depth, sources):
                raise BadStage(position)
            sources.extend(sources_of_stage(stage))
            depth = depth_behind(stage, depth)
        self._source = source
        self._stages = tuple(stages)
        self._sources = tuple(sources)
        self._depth = depth

    @property
    def source(self):
        return self._source

    @property
    def stages(self):
        """The tuple of the stages."""
        return self._stages

    @property
    def sources(self):
        """The tuple of the own source and then those of the zips, one zip behind the other."""
        return self._sources

    @property
    def depth(self):
        """The depth of the things behind the last stage."""
        return self._depth

    def then(self, stage):
        """A new program with one stage more behind the others."""
        return Program(self._source, list(self._stages) + [stage])

    def without(self, positions):
        """A new program without the stages at the positions of a list."""
        if not are_positions(positions, len(self._stages)):
            raise BadPositions(positions)
        left = [stage for position, stage in enumerate(self._stages) if position not in positions]
        return Program(self._source, left)

    def exchanged(self, position):
        """A new program in which the stages at a position and the next one have changed places."""
        if not is_position(position, len(self._stages) - 1):
            raise BadPositions(position)
        stages = list(self._stages)
        stages[position], stages[position + 1] = stages[position + 1], stages[position]
        return Program(self._source, stages)

    def __eq__(self, other):
        return isinstance(other, Program) and self._source == other._source and self._stages == other._stages
