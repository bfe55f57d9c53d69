"""The errors of the program, all directly under EllError, with what they tell in attributes."""


class EllError(ValueError):
    """The base class of all errors of the program."""


class BadRatio(EllError):
    """No text of a ratio."""

    def __init__(self, text):
        self.text = text


class Nought(EllError):
    """A number that would be divided by 0."""

    def __init__(self, number):
        self.number = number


class TooHigh(EllError):
    """A dimension that would come, with an exponent beyond -9 to 9."""

    def __init__(self, dimension):
        self.dimension = dimension


class Mixed(EllError):
    """Two dimensions that differ and should not."""

    def __init__(self, left, right):
        self.left = left
        self.right = right


class BadTable(EllError):
    """A place in a table of units; -1 for the bases or the table as a whole."""

    def __init__(self, place):
        self.place = place


class BadUnit(EllError):
    """No unit text."""

    def __init__(self, text):
        self.text = text


class Unknown(EllError):
    """A name that is not there as what is due."""

    def __init__(self, name):
        self.name = name


class Twice(EllError):
    """A name that came before."""

    def __init__(self, name):
        self.name = name


class BadCharter(EllError):
    """A place in a part of a charter; -1 for the part as a whole."""

    def __init__(self, part, place):
        self.part = part
        self.place = place


class TooMany(EllError):
    """More of a kind than told."""

    def __init__(self, kind):
        self.kind = kind


class BadStep(EllError):
    """The first fault of a procedure; step -1 for its parameters."""

    def __init__(self, procedure, step, kind, about):
        self.procedure = procedure
        self.step = step
        self.kind = kind
        self.about = about


class Ring(EllError):
    """A procedure that calls itself."""

    def __init__(self, name):
        self.name = name


class TooLong(EllError):
    """A procedure with too many readings or steps."""

    def __init__(self, name):
        self.name = name


class BadLine(EllError):
    """The first word that cannot stand in its place."""

    def __init__(self, line, word):
        self.line = line
        self.word = word


class BadWorld(EllError):
    """A place in the pairs of a world."""

    def __init__(self, place):
        self.place = place


class BadSpot(EllError):
    """A place in the spots of a web."""

    def __init__(self, place):
        self.place = place


class BadLink(EllError):
    """A place in the links of a web."""

    def __init__(self, place):
        self.place = place


class Loose(EllError):
    """A spot without a chain from the ground, or to it."""

    def __init__(self, spot):
        self.spot = spot


class NoSpot(EllError):
    """A spot that is not there."""

    def __init__(self, spot):
        self.spot = spot


class Clash(EllError):
    """A web without a world, with a ring of it whose bound is below 0."""

    def __init__(self, ring):
        self.ring = ring


class BadForm(EllError):
    """A place in the terms of a form; -1 for its rest."""

    def __init__(self, place):
        self.place = place


class NoPoint(EllError):
    """A point beyond a shadow."""

    def __init__(self, point):
        self.point = point


class NoQuotient(EllError):
    """A world in which a divisor is 0."""

    def __init__(self, world):
        self.world = world


class BadDay(EllError):
    """A day that is none, or that goes back."""

    def __init__(self, day):
        self.day = day


class BadNews(EllError):
    """A place in a news."""

    def __init__(self, place):
        self.place = place


class NoNews(EllError):
    """The number of no news."""

    def __init__(self, number):
        self.number = number


class NoMoment(EllError):
    """The number of no moment."""

    def __init__(self, moment):
        self.moment = moment


class BadSlip(EllError):
    """A part of a slip."""

    def __init__(self, part):
        self.part = part


class Nobody(EllError):
    """A job that nobody does, or a role in which nobody stands."""

    def __init__(self, job):
        self.job = job


class BadMark(EllError):
    """A place in a row of marks, or a mark."""

    def __init__(self, place):
        self.place = place


class NoRow(EllError):
    """The number of no row of a run."""

    def __init__(self, number):
        self.number = number


class BadCard(EllError):
    """A place in a card; -1 for the card as a whole."""

    def __init__(self, place):
        self.place = place


class BadHouse(EllError):
    """A place in the houses of a league; -1 for their number."""

    def __init__(self, place):
        self.place = place


class BadTie(EllError):
    """A place in the ties of a league."""

    def __init__(self, place):
        self.place = place


class Unlike(EllError):
    """A thing that differs in two houses."""

    def __init__(self, name):
        self.name = name


class Apart(EllError):
    """A thing whose houses are not joined among themselves."""

    def __init__(self, name):
        self.name = name


class NoHouse(EllError):
    """The name of no house."""

    def __init__(self, name):
        self.name = name


class NoTie(EllError):
    """Two houses without a tie."""

    def __init__(self, sender, receiver):
        self.sender = sender
        self.receiver = receiver


class NoLetter(EllError):
    """The number of no letter."""

    def __init__(self, number):
        self.number = number


class NoTelling(EllError):
    """The number of no telling."""

    def __init__(self, number):
        self.number = number


class TooLarge(EllError):
    """A size that would be too large."""

    def __init__(self, number):
        self.number = number
