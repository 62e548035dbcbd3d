"""The errors of the package; each one keeps what it was made with."""


class PactError(Exception):
    """Base class of all errors here but NoName."""


class InvalidPact(PactError):
    """What was handed in is no pact; at tells which part is wrong."""

    def __init__(self, at):
        self.at = at


class InvalidText(PactError):
    """A text cannot be read; at is the number of its first wrong line."""

    def __init__(self, at):
        self.at = at


class InvalidFamily(PactError):
    """A value is no family of the hands; at is its first wrong place."""

    def __init__(self, at):
        self.at = at


class InvalidMoment(PactError):
    """A value is no moment of the pact; at is its first wrong place."""

    def __init__(self, at):
        self.at = at


class InvalidRun(PactError):
    """A value is no run of the pact; at is its first wrong event."""

    def __init__(self, at):
        self.at = at


class InvalidAsk(PactError):
    """A value is no row of asks; at is the first wrong one."""

    def __init__(self, at):
        self.at = at


class InvalidRow(PactError):
    """A value is no row or order of what it should have; at is its first wrong place."""

    def __init__(self, at):
        self.at = at


class InvalidOffices(PactError):
    """These are no offices; at tells which part is wrong."""

    def __init__(self, at):
        self.at = at


class InvalidSize(PactError):
    """Something is too large, or not as large as needed; word tells what."""

    def __init__(self, word):
        self.word = word


class InvalidCommand(PactError):
    """A desk does not know this command."""


class Refused(PactError):
    """Something cannot be done as things are; word tells why."""

    def __init__(self, word):
        self.word = word


class NoName(KeyError):
    """The pact has no hand, or no note, of this name."""

    def __init__(self, name):
        self.name = name
