"""The errors of restruct."""


class WorkError(ValueError):
    """The base of all errors of restruct."""


class SyntaxFault(WorkError):
    """A source has a line that is wrong; lines count from 1."""

    def __init__(self, line):
        WorkError.__init__(self, f"line {line} is wrong")
        self.line = line


class SourceFault(WorkError):
    """A source has a fault at a label, or at no label in particular (None)."""

    def __init__(self, reason, label):
        WorkError.__init__(self, reason if label is None else f"{reason}: {label}")
        self.reason = reason
        self.label = label


class CannotApply(WorkError):
    """The command with this index cannot be applied; indexes count from 0."""

    def __init__(self, index):
        WorkError.__init__(self, f"the command with the index {index} cannot be applied")
        self.index = index


class BadLine(WorkError):
    """A text is no line of the kind that is asked for."""


class TooMany(WorkError):
    """Splitting a program leads to too many states."""


class NotReducible(WorkError):
    """The program is not reducible."""


class NoSuchLabel(WorkError):
    """The program does not have the label."""
