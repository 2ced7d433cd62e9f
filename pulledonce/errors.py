"""The errors of the package. Each one keeps what is wrong, as it is, in one attribute."""


class StreamError(ValueError):
    """All errors that the package raises are of this class."""


class BadSource(StreamError):
    """The value is not a source."""

    def __init__(self, value):
        self.value = value


class BadStages(StreamError):
    """The value is not a list or tuple of at most six entries."""

    def __init__(self, value):
        self.value = value


class BadStage(StreamError):
    """At the position there is no stage, or none that can stand there."""

    def __init__(self, position):
        self.position = position


class BadPositions(StreamError):
    """The value does not tell positions of stages."""

    def __init__(self, value):
        self.value = value


class BadReply(StreamError):
    """The value can not be replied now."""

    def __init__(self, value):
        self.value = value


class BadReplies(StreamError):
    """The reply at the position can not be replied there."""

    def __init__(self, position):
        self.position = position


class HasZip(StreamError):
    """A program that may have no zip has one at the position."""

    def __init__(self, position):
        self.position = position


class BadLoop(StreamError):
    """The value is not a loop."""

    def __init__(self, value):
        self.value = value


class BadText(StreamError):
    """The value is not the text of a program, as its line with that number shows."""

    def __init__(self, line):
        self.line = line
