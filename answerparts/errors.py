"""The errors of the package."""


class AnswerError(ValueError):
    """The base class of all errors of the package."""


class InvalidLists(AnswerError):
    """The lists of a program, or those that it keeps, are not right."""


class InvalidBlock(AnswerError):
    """A statement is not right, or, with the path (), there are too many."""

    def __init__(self, path):
        super().__init__(f"the block is not right at the path {path}")
        self.path = path


class NoStatement(AnswerError):
    """There is no such statement at the path."""

    def __init__(self, path):
        # A caller's path can be anything, also what has no text: it is only kept.
        super().__init__("there is no such statement at this path")
        self.path = path


class InvalidWorld(AnswerError):
    """What is said of a world is not what a world can be."""


class WorldError(AnswerError):
    """The modes of two worlds differ."""


class InvalidLimit(AnswerError):
    """The limit of steps is not an integer from 0 to 1000."""


class InvalidEvent(AnswerError):
    """The event with this index cannot happen then."""

    def __init__(self, index):
        super().__init__(f"the event with the index {index} cannot happen then")
        self.index = index


class IsPossible(AnswerError):
    """The result is possible, so no paper shows that it is not."""


class InvalidText(AnswerError):
    """The text is not right at this line, or at this event of a history."""

    def __init__(self, line):
        super().__init__(f"the text is not right at number {line}")
        self.line = line
