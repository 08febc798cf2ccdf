"""The errors of the package, all directly below SwayError."""


class SwayError(ValueError):
    """What all errors of the package are."""


class BadAlone(SwayError):
    """What is given is no alone lot of the house."""


class BadDeed(SwayError):
    """What is given is no deed."""


class BadEquations(SwayError):
    """What is given are no equations that tell all."""


class BadFamily(SwayError):
    """What is given is no family word."""


class BadHouse(SwayError):
    """What is given is no House, or a part of it is wrong."""

    def __init__(self, part):
        self.part = part


class BadInner(SwayError):
    """What is given is no inner house of the house."""


class BadLive(SwayError):
    """What is given is no LiveHouse."""


class BadLot(SwayError):
    """What is given is no free lot of the house."""


class BadMakers(SwayError):
    """What is given are no makers of the house."""


class BadName(SwayError):
    """What is given is no name."""


class BadNumber(SwayError):
    """The number that part names is none, or out of its bounds."""

    def __init__(self, part):
        self.part = part


class BadOthers(SwayError):
    """What is given are no others for the lot."""


class BadPoint(SwayError):
    """What is given is no point, or one of another kind than is wanted."""


class BadPoly(SwayError):
    """What is given is no Poly, or one of another kind than is wanted."""


class BadPrime(SwayError):
    """What is given is no prime from 2 to 97."""


class BadRow(SwayError):
    """What is given is no row of a house."""


class BadSlant(SwayError):
    """What is given is no Slant, or one of another kind than is wanted."""


class BadTable(SwayError):
    """What is given is no Table, or one of another kind than is wanted."""


class BadText(SwayError):
    """The text is wrong; at is the index of the first wrong line."""

    def __init__(self, at):
        self.at = at


class BadToll(SwayError):
    """What is given is no toll of the house."""


class LowPrime(SwayError):
    """The prime is too low for what is asked."""


class NoMark(SwayError):
    """No house is kept under the name."""

    def __init__(self, name):
        self.name = name


class NoMean(SwayError):
    """The house is not mild, so that it has no means."""


class NoStep(SwayError):
    """The polynomials make no step."""


class NoWatch(SwayError):
    """Nothing is watched under the name."""

    def __init__(self, name):
        self.name = name


class NothingLeft(SwayError):
    """There is no deed to take back, or to do again."""


class Swayed(SwayError):
    """A polynomial that must be unswayed is not."""


class TooMany(SwayError):
    """What comes up while something is worked out is above the limit most."""

    def __init__(self, most):
        self.most = most
