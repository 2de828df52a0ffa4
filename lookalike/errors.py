"""The errors that this package raises.

Their messages do not show what is kept as `at`: it may be any value, even a
number that Python does not turn into text.
"""


class LookError(ValueError):
    """Whatever is raised here is one."""


class InvalidOrder(LookError):
    """What was passed tells no order of levels."""

    def __init__(self, at):
        LookError.__init__(self, "this tells no order")
        self.at = at


class InvalidText(LookError):
    """A text is none of a program or an image."""

    def __init__(self, at):
        LookError.__init__(self, "this is no such text")
        self.at = at


class InvalidProgram(LookError):
    """A program is not as it has to be."""

    def __init__(self, at):
        LookError.__init__(self, "this is no such program")
        self.at = at


class InvalidCode(LookError):
    """A code is not as it has to be."""

    def __init__(self, at):
        LookError.__init__(self, "this is no such code")
        self.at = at


class InvalidPaper(LookError):
    """A paper is not as it has to be."""

    def __init__(self, at):
        LookError.__init__(self, "this is no such paper")
        self.at = at


class InvalidQuestion(LookError):
    """Something was asked that there is not."""

    def __init__(self, at):
        LookError.__init__(self, "there is no such thing to ask for")
        self.at = at


class Refused(LookError):
    """What was asked for is not given."""

    def __init__(self, at):
        LookError.__init__(self, "this is refused")
        self.at = at


class InvalidCommand(LookError):
    """A desk does not know the command."""
