"""All errors of the package: NewError, its four families, and the errors of each family.

An error keeps the objects that it is given. It builds no message from them: that would inspect them.
"""


class NewError(ValueError):
    """The base of all errors of the package."""


class PaperError(NewError):
    """The family of errors about papers."""


class MachineError(NewError):
    """The family of errors about machines, boxes and knowledge."""


class ServiceError(NewError):
    """The family of errors about services."""


class TextError(NewError):
    """The family of errors about texts."""


class InvalidPaper(PaperError):
    """A checker refuses a value: word names the reason, at its place."""

    def __init__(self, word, at):
        self.word = word
        self.at = at


class InvalidLetter(MachineError):
    """A value is no letter of the machine."""

    def __init__(self, letter):
        self.letter = letter


class InvalidState(MachineError):
    """A value is no state of the machine."""

    def __init__(self, state):
        self.state = state


class InvalidBox(MachineError):
    """A box or a line cannot be made: word names the reason, at its place."""

    def __init__(self, word, at):
        self.word = word
        self.at = at


class InvalidKnowledge(MachineError):
    """A knowledge cannot be made or asked: word names the reason, at its place."""

    def __init__(self, word, at):
        self.word = word
        self.at = at


class NotReached(MachineError):
    """No past leads to the standing."""

    def __init__(self, standing):
        self.standing = standing


class InvalidEvent(ServiceError):
    """An event is not possible in a service, for the reason."""

    def __init__(self, event, reason):
        self.event = event
        self.reason = reason


class NothingToUndo(ServiceError):
    """There is no event that could be taken back; steps is the number of those that there are."""

    def __init__(self, steps):
        self.steps = steps


class InvalidText(TextError):
    """A text writes no value: line and field tell the first place that is not possible."""

    def __init__(self, line, field):
        self.line = line
        self.field = field


class InvalidRow(TextError):
    """A desk cannot answer the row."""

    def __init__(self, row):
        self.row = row
