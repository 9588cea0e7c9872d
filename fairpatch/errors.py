"""All errors of the package: each one is a direct heir of PatchError."""


class PatchError(ValueError):
    """What every error of this package is."""


class InvalidNumber(PatchError):
    """A value that is not the number that is asked for."""

    def __init__(self, given):
        self.given = given


class InvalidLots(PatchError):
    """A value that is no list of lots on equally many outcomes."""

    def __init__(self, given):
        self.given = given


class InvalidLot(PatchError):
    """A value that is no lot."""

    def __init__(self, given):
        self.given = given


class InvalidPayoff(PatchError):
    """A value that is no payoff."""

    def __init__(self, given):
        self.given = given


class InvalidNames(PatchError):
    """A value that gives no space its names and sizes."""

    def __init__(self, given):
        self.given = given


class InvalidStore(PatchError):
    """A value that is no store."""

    def __init__(self, given):
        self.given = given


class InvalidValues(PatchError):
    """A value that gives the names of a space no values."""

    def __init__(self, given):
        self.given = given


class InvalidText(PatchError):
    """A value that is no string."""

    def __init__(self, given):
        self.given = given


class InvalidSystem(PatchError):
    """A value that is no system."""

    def __init__(self, given):
        self.given = given


class InvalidUnit(PatchError):
    """A value that is not the name of a unit."""

    def __init__(self, given):
        self.given = given


class InvalidBody(PatchError):
    """A value that no unit of a system can have as its body."""

    def __init__(self, given):
        self.given = given


class InvalidSteps(PatchError):
    """A value that is no number of steps."""

    def __init__(self, given):
        self.given = given


class InvalidSummaries(PatchError):
    """A value that does not tell what called units bring."""

    def __init__(self, given):
        self.given = given


class InvalidRow(PatchError):
    """A value that is not the row, or place, that is asked for."""

    def __init__(self, given):
        self.given = given


class InvalidPick(PatchError):
    """A value that is no pick."""

    def __init__(self, given):
        self.given = given


class InvalidBlend(PatchError):
    """A value that gives lots no weights."""

    def __init__(self, given):
        self.given = given


class InvalidCode(PatchError):
    """A value that is no code."""

    def __init__(self, given):
        self.given = given


class InvalidLines(PatchError):
    """A value that is not the lines of what is to be read."""

    def __init__(self, given):
        self.given = given


class InvalidAnswer(PatchError):
    """A value that is no answer to what is asked."""

    def __init__(self, given):
        self.given = given


class InvalidPart(PatchError):
    """A value that is no part of the wheel."""

    def __init__(self, given):
        self.given = given


class InvalidEdition(PatchError):
    """A value that is not the number of an edition."""

    def __init__(self, given):
        self.given = given


class InvalidGame(PatchError):
    """A value that is not the number of a game."""

    def __init__(self, given):
        self.given = given


class InvalidPlan(PatchError):
    """A value that is no plan."""

    def __init__(self, given):
        self.given = given


class InvalidRecord(PatchError):
    """A value that is no record."""

    def __init__(self, given):
        self.given = given


class InvalidName(PatchError):
    """A value that is not the name that is asked for."""

    def __init__(self, given):
        self.given = given


class ByZero(PatchError):
    """A division by 0."""

    def __init__(self):
        pass


class NoSystem(PatchError):
    """A string that is no text of a system, with the place where this shows."""

    def __init__(self, line, column):
        self.line = line
        self.column = column


class NotFair(PatchError):
    """A system in which something is wrong."""

    def __init__(self, reason, unit, word):
        self.reason = reason
        self.unit = unit
        self.word = word


class Outside(PatchError):
    """A lot that is no mixture, with a payoff that shows it."""

    def __init__(self, payoff):
        self.payoff = payoff


class NotBrought(PatchError):
    """A lot that is not brought, with a paper against it."""

    def __init__(self, payoff, table):
        self.payoff = payoff
        self.table = table


class TooMany(PatchError):
    """More than the bound lets by."""

    def __init__(self, count):
        self.count = count


class TooRich(PatchError):
    """A unit that brings more corners from a store than the bound lets by."""

    def __init__(self, unit, store, count):
        self.unit = unit
        self.store = store
        self.count = count


class TooGreat(PatchError):
    """A lot with greater integers than the bound lets by."""

    def __init__(self, unit, store):
        self.unit = unit
        self.store = store


class NotLet(PatchError):
    """An exchange or a move that is not let by, with what shows it."""

    def __init__(self, store, pick, payoff, table):
        self.store = store
        self.pick = pick
        self.payoff = payoff
        self.table = table


class NotAsked(PatchError):
    """A game that has ended, and asks for nothing."""

    def __init__(self):
        pass


class NoThing(PatchError):
    """A name under which a desk keeps nothing."""

    def __init__(self, name):
        self.name = name


class NothingToUndo(PatchError):
    """A table without a patch that can be undone."""

    def __init__(self):
        pass
