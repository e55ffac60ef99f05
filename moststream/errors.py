"""The errors of the package: each is a StreamError, made with its fields alone."""


class StreamError(ValueError):
    """What all errors of the package are."""


class BadWeb(StreamError):
    """A web is not made of these: `part` is what is wrong first."""

    def __init__(self, part):
        self.part = part


class NoHouse(StreamError):
    """No house of the web."""

    def __init__(self):
        pass


class NoTie(StreamError):
    """No tie between two houses."""

    def __init__(self):
        pass


class NoStream(StreamError):
    """No stream of the web."""

    def __init__(self):
        pass


class NoSide(StreamError):
    """No side of the web."""

    def __init__(self):
        pass


class NotSpring(StreamError):
    """A house that can't start: not the spring, or not asleep."""

    def __init__(self):
        pass


class NoWord(StreamError):
    """No word, or none that the house can hear then."""

    def __init__(self):
        pass


class NoGlass(StreamError):
    """No glass of the web."""

    def __init__(self):
        pass


class NoMove(StreamError):
    """No move that can be made then."""

    def __init__(self):
        pass


class NoChoices(StreamError):
    """No choices: `index` is the first that is no number, or -1."""

    def __init__(self, index):
        self.index = index


class BadRecord(StreamError):
    """A record is not made of these: `index` is the first that is no event, or -1."""

    def __init__(self, index):
        self.index = index


class NoMoment(StreamError):
    """No moment of a record or a film."""

    def __init__(self):
        pass


class NoNumber(StreamError):
    """No number of the kind that is asked for."""

    def __init__(self):
        pass


class NoState(StreamError):
    """No state of an end of a link."""

    def __init__(self):
        pass


class NoParcel(StreamError):
    """No parcel."""

    def __init__(self):
        pass


class NoRow(StreamError):
    """No row of bytes."""

    def __init__(self):
        pass


class BadRow(StreamError):
    """A row of no parcel: `place` is the first that is wrong."""

    def __init__(self, place):
        self.place = place


class NoCut(StreamError):
    """No cut that fits the blocks that wait."""

    def __init__(self):
        pass


class NoBlocks(StreamError):
    """No list or tuple of rows."""

    def __init__(self):
        pass


class NoDeed(StreamError):
    """No deed, or none that can be done then."""

    def __init__(self):
        pass


class NoPast(StreamError):
    """No past of a house."""

    def __init__(self):
        pass


class NoDisk(StreamError):
    """No disk, or none that can be taken."""

    def __init__(self):
        pass


class OtherHouse(StreamError):
    """A disk of another house."""

    def __init__(self):
        pass


class BadDeeds(StreamError):
    """Deeds that can't be done: `index` is the first that can't, or -1."""

    def __init__(self, index):
        self.index = index


class BadText(StreamError):
    """A text that can't be read: `line` is the first that is wrong, or 0."""

    def __init__(self, line):
        self.line = line


class BadMoves(StreamError):
    """Moves that can't be made: `index` is the first that can't, or -1."""

    def __init__(self, index):
        self.index = index


class NoLine(StreamError):
    """No line that a desk knows."""

    def __init__(self):
        pass


class NoName(StreamError):
    """Nothing is kept under `name`."""

    def __init__(self, name):
        self.name = name
