"""The errors of the program: each has what it was made with as its attributes."""


class BlockError(ValueError):
    """The base class of all errors of the program."""


class InvalidText(BlockError):
    """A text is not in the required form: row is the number of the first wrong or missing row."""

    def __init__(self, row):
        self.row = row


class UnknownBlock(BlockError):
    """There is no block of this name."""

    def __init__(self, name):
        self.name = name


class Recursion(BlockError):
    """Diagrams contain each other: chain is the list of their names."""

    def __init__(self, chain):
        self.chain = chain


class BadDiagram(BlockError):
    """A wire of the diagram leads from or to an unknown port, or a target has no source."""

    def __init__(self, name, port, reason):
        self.name = name
        self.port = port
        self.reason = reason


class BadInterface(BlockError):
    """What is given as the interface of the block of this name is none."""

    def __init__(self, name):
        self.name = name


class Cycle(BlockError):
    """The step functions (part, number) of the list cycle wait for each other in the diagram."""

    def __init__(self, name, cycle):
        self.name = name
        self.cycle = cycle


class DraftClosed(BlockError):
    """The draft was committed or closed before."""


class Stale(BlockError):
    """Another draft of the library was committed after this one was made."""


class LibraryFull(BlockError):
    """The library would have too many diagrams."""


class TooLarge(BlockError):
    """A diagram has too many parts at all depths: count is their number."""

    def __init__(self, count):
        self.count = count


class WrongCount(BlockError):
    """A row has not as many values as there are inputs: count is the number of the inputs."""

    def __init__(self, count):
        self.count = count


class UnknownPort(BlockError):
    """There is no port of this name."""

    def __init__(self, name):
        self.name = name


class BadValue(BlockError):
    """What is given to the input of this name is not a value."""

    def __init__(self, name):
        self.name = name


class Given(BlockError):
    """The input of this name was given before."""

    def __init__(self, name):
        self.name = name


class NotGiven(BlockError):
    """Inputs are needed that are not given: missing is the tuple of their names."""

    def __init__(self, missing):
        self.missing = missing


class InstantOpen(BlockError):
    """The runner has an open instant."""


class InstantClosed(BlockError):
    """The instant was finished or dropped before."""


class BadState(BlockError):
    """A state lacks the path of a delay, or has this path that is none, or a value that is none."""

    def __init__(self, path):
        self.path = path


class OtherPorts(BlockError):
    """Two blocks or nets have not the same inputs, or not the same outputs."""


class BadNet(BlockError):
    """What is given makes no net, or one of too many parts."""


class DelayRing(BlockError):
    """A net has a cycle of wires through delays alone."""


class BadMoves(BlockError):
    """What is given is no good moves of the net."""


class NotLinear(BlockError):
    """A net is not linear: path is that of the first part that is not as in a linear net."""

    def __init__(self, path):
        self.path = path


class BadRanges(BlockError):
    """What is given is no ranges of the net."""


class TooManyStates(BlockError):
    """More states can be reached than are looked through."""


class UnknownPart(BlockError):
    """There is no part of this path that can be moved."""

    def __init__(self, path):
        self.path = path


class NotGood(BlockError):
    """The part cannot be moved ahead."""


class UnknownMark(BlockError):
    """There is no mark of this number."""

    def __init__(self, number):
        self.number = number
