"""The exceptions of the package."""


class WalkError(ValueError):
    """The base class of all exceptions of the package."""


class InvalidWay(WalkError):
    """A way cannot be made of these arguments; `index` is that of a post."""

    def __init__(self, part, index):
        super().__init__(f"invalid way: {part}, {index}")
        self.part = part
        self.index = index


class UnknownPost(WalkError):
    """The way has no post with this number."""


class InvalidNumber(WalkError):
    """An argument is not a number, or is not within its limits."""


class InvalidStretch(WalkError):
    """A stretch cannot be told by these numbers."""

    def __init__(self, part):
        super().__init__(f"invalid stretch: {part}")
        self.part = part


class GoesOut(WalkError):
    """The lantern would go out after these whole legs and further steps."""

    def __init__(self, legs, steps):
        super().__init__(f"the lantern goes out: {legs} legs, {steps} steps")
        self.legs = legs
        self.steps = steps


class AlreadyOpen(WalkError):
    """A block of a live walk is entered within another one."""


class InvalidOperation(WalkError):
    """The argument with this index is not an operation of a live walk."""

    def __init__(self, index):
        super().__init__(f"invalid operation: {index}")
        self.index = index


class Contradiction(WalkError):
    """No amount of oil agrees with all observations."""


class NotationError(WalkError):
    """A text does not have the form of a way; row and word tell where."""

    def __init__(self, row, word):
        super().__init__(f"invalid text: row {row}, word {word}")
        self.row = row
        self.word = word


class InvalidCount(WalkError):
    """What was to be packed is not a list of integers from 0 to 255."""


class DecodeError(WalkError):
    """Bytes do not tell a way; the offset is that of the first bad byte."""

    def __init__(self, offset):
        super().__init__(f"invalid bytes: offset {offset}")
        self.offset = offset
