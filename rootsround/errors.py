"""The errors of the package."""


class RootError(ValueError):
    """A value that is not what it has to be."""


class InvalidMany(RootError):
    def __init__(self, value):
        RootError.__init__(self, "not a COUNT within the bounds")
        self.value = value


class InvalidNumber(RootError):
    def __init__(self, value):
        RootError.__init__(self, "not a NUMBER that may stand here")
        self.value = value


class InvalidPoly(RootError):
    def __init__(self, value):
        RootError.__init__(self, "not a polynomial")
        self.value = value


class InvalidPrime(RootError):
    def __init__(self, value):
        RootError.__init__(self, "not a prime")
        self.value = value


class InvalidRoot(RootError):
    def __init__(self, value):
        RootError.__init__(self, "not a Root")
        self.value = value


class InvalidState(RootError):
    def __init__(self, value):
        RootError.__init__(self, "not a State")
        self.value = value


class InvalidUnit(RootError):
    def __init__(self, value):
        RootError.__init__(self, "not a unit of the root")
        self.value = value


class DividedByZero(RootError):
    def __init__(self):
        RootError.__init__(self, "divided by 0")


class InvalidClaim(RootError):
    def __init__(self, value):
        RootError.__init__(self, "not a claim")
        self.value = value


class InvalidCommand(RootError):
    def __init__(self, value):
        RootError.__init__(self, "not a command")
        self.value = value


class InvalidForm(RootError):
    def __init__(self, value):
        RootError.__init__(self, "not a value of this sort")
        self.value = value


class InvalidLines(RootError):
    def __init__(self, position):
        RootError.__init__(self, "not a list of deeds")
        self.position = position


class InvalidPaper(RootError):
    def __init__(self, value):
        RootError.__init__(self, "not a paper of the claim")
        self.value = value


class InvalidPlace(RootError):
    def __init__(self, value):
        RootError.__init__(self, "not a place of a number")
        self.value = value


class InvalidSort(RootError):
    def __init__(self, value):
        RootError.__init__(self, "not a sort")
        self.value = value


class InvalidText(RootError):
    def __init__(self, line):
        RootError.__init__(self, "not a written form")
        self.line = line


class MissingError(LookupError):
    """A name under which nothing stands."""


class UnknownLabel(MissingError):
    def __init__(self, value):
        MissingError.__init__(self, "no such label")
        self.value = value


class UnknownName(MissingError):
    def __init__(self, value):
        MissingError.__init__(self, "nothing of this kind is kept under the name")
        self.value = value


class StateError(RuntimeError):
    """Something that cannot be done with these values."""


class NoughtPoly(StateError):
    def __init__(self):
        StateError.__init__(self, "the polynomial is nought")


class WrongDegree(StateError):
    def __init__(self):
        StateError.__init__(self, "the degree is none of 2, 4, 6 and 8")


class NotKept(StateError):
    def __init__(self):
        StateError.__init__(self, "the prime does not keep the root")


class BottomNought(StateError):
    def __init__(self):
        StateError.__init__(self, "the prime divides a bottom")


class CommandFailed(StateError):
    def __init__(self, position):
        StateError.__init__(self, "a command failed")
        self.position = position


class HasSquare(StateError):
    def __init__(self):
        StateError.__init__(self, "the polynomial has a square part")


class LabelTaken(StateError):
    def __init__(self, label):
        StateError.__init__(self, "the label is taken")
        self.label = label


class NameTaken(StateError):
    def __init__(self, name):
        StateError.__init__(self, "the name is taken")
        self.name = name


class NeverRound(StateError):
    def __init__(self):
        StateError.__init__(self, "the root is not round")


class NoSquareHead(StateError):
    def __init__(self):
        StateError.__init__(self, "the head is not the square of a NUMBER")


class NoState(StateError):
    def __init__(self):
        StateError.__init__(self, "the second polynomial does not divide D less the first one squared")


class NotApart(StateError):
    def __init__(self):
        StateError.__init__(self, "the polynomials have a common part")


class NotReal(StateError):
    def __init__(self):
        StateError.__init__(self, "the root is not all real")


class NotReduced(StateError):
    def __init__(self):
        StateError.__init__(self, "the state is not reduced")


class NothingToRedo(StateError):
    def __init__(self):
        StateError.__init__(self, "nothing to redo")


class NothingToUndo(StateError):
    def __init__(self):
        StateError.__init__(self, "nothing to undo")


class NumberAlone(StateError):
    def __init__(self):
        StateError.__init__(self, "the polynomial is a number alone")


class UnlikeHeads(StateError):
    def __init__(self):
        StateError.__init__(self, "the degrees or the heads are unlike")


class LimitError(ArithmeticError):
    """A limit that was met."""


class TooMany(LimitError):
    def __init__(self, what, limit):
        LimitError.__init__(self, "more than the limit")
        self.what = what
        self.limit = limit
