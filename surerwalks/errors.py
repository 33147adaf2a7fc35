"""The errors of the package: four families, and each error with its attributes."""


class WalkError(ValueError):
    """A value that was passed is not valid."""


class InvalidForm(WalkError):
    def __init__(self, value):
        WalkError.__init__(self, "not a form")
        self.value = value


class InvalidFunction(WalkError):
    def __init__(self, value):
        WalkError.__init__(self, "not a function of the walk")
        self.value = value


class InvalidMany(WalkError):
    def __init__(self, value):
        WalkError.__init__(self, "not a count in the told bounds")
        self.value = value


class InvalidNumber(WalkError):
    def __init__(self, value):
        WalkError.__init__(self, "not a number that can be taken here")
        self.value = value


class InvalidPart(WalkError):
    def __init__(self, value):
        WalkError.__init__(self, "not a number from 0 to 1")
        self.value = value


class InvalidPlace(WalkError):
    def __init__(self, value):
        WalkError.__init__(self, "not a place of the walk")
        self.value = value


class InvalidStart(WalkError):
    def __init__(self, value):
        WalkError.__init__(self, "not a start of the walk")
        self.value = value


class InvalidTable(WalkError):
    def __init__(self, value):
        WalkError.__init__(self, "not a table")
        self.value = value


class InvalidWalk(WalkError):
    def __init__(self, value):
        WalkError.__init__(self, "not a walk")
        self.value = value


class DividedByZero(WalkError):
    def __init__(self):
        WalkError.__init__(self, "divided by 0")


class InvalidChances(WalkError):
    def __init__(self, value):
        WalkError.__init__(self, "not chances")
        self.value = value


class InvalidClaim(WalkError):
    def __init__(self, value):
        WalkError.__init__(self, "not a claim")
        self.value = value


class InvalidCommand(WalkError):
    def __init__(self, value):
        WalkError.__init__(self, "not a command")
        self.value = value


class InvalidControls(WalkError):
    def __init__(self, value):
        WalkError.__init__(self, "not controls of the walk")
        self.value = value


class InvalidCost(WalkError):
    def __init__(self, value):
        WalkError.__init__(self, "not a number above 0")
        self.value = value


class InvalidDeeds(WalkError):
    def __init__(self, position):
        WalkError.__init__(self, "not a list of deeds")
        self.position = position


class InvalidGrid(WalkError):
    def __init__(self, value):
        WalkError.__init__(self, "not a grid")
        self.value = value


class InvalidGuess(WalkError):
    def __init__(self, value):
        WalkError.__init__(self, "not a guess")
        self.value = value


class InvalidGuesses(WalkError):
    def __init__(self, value):
        WalkError.__init__(self, "not guesses for all places")
        self.value = value


class InvalidMuch(WalkError):
    def __init__(self, value):
        WalkError.__init__(self, "not a number")
        self.value = value


class InvalidNumbers(WalkError):
    def __init__(self, value):
        WalkError.__init__(self, "not as many numbers as controls")
        self.value = value


class InvalidOrder(WalkError):
    def __init__(self, value):
        WalkError.__init__(self, "not an order of the places")
        self.value = value


class InvalidPaper(WalkError):
    def __init__(self, value):
        WalkError.__init__(self, "not a paper of the claim")
        self.value = value


class InvalidProposal(WalkError):
    def __init__(self, value):
        WalkError.__init__(self, "not a proposal")
        self.value = value


class InvalidRing(WalkError):
    def __init__(self, value):
        WalkError.__init__(self, "not a ring of the places")
        self.value = value


class InvalidRow(WalkError):
    def __init__(self, value):
        WalkError.__init__(self, "not as many numbers as the form has rows")
        self.value = value


class InvalidRows(WalkError):
    def __init__(self, value):
        WalkError.__init__(self, "not rows of chances")
        self.value = value


class InvalidShares(WalkError):
    def __init__(self, value):
        WalkError.__init__(self, "not shares that the rows keep")
        self.value = value


class InvalidSort(WalkError):
    def __init__(self, value):
        WalkError.__init__(self, "not the word of a sort")
        self.value = value


class InvalidTaken(WalkError):
    def __init__(self, value):
        WalkError.__init__(self, "not a rule")
        self.value = value


class InvalidText(WalkError):
    def __init__(self, line):
        WalkError.__init__(self, "not a written form")
        self.line = line


class InvalidValue(WalkError):
    def __init__(self, value):
        WalkError.__init__(self, "not a value of this sort")
        self.value = value


class InvalidWay(WalkError):
    def __init__(self, value):
        WalkError.__init__(self, "not a way to meet")
        self.value = value


class InvalidWeights(WalkError):
    def __init__(self, value):
        WalkError.__init__(self, "not weights")
        self.value = value


class InvalidWhich(WalkError):
    def __init__(self, value):
        WalkError.__init__(self, "not 0 or 1")
        self.value = value


class MissingError(LookupError):
    """Nothing is kept under what was asked for."""


class UnknownLabel(MissingError):
    def __init__(self, value):
        MissingError.__init__(self, "no such label")
        self.value = value


class UnknownName(MissingError):
    def __init__(self, value):
        MissingError.__init__(self, "no such name")
        self.value = value


class StateError(RuntimeError):
    """Each value is valid, but they do not go together, or not now."""


class NotWhole(StateError):
    def __init__(self):
        StateError.__init__(self, "the walk is not whole")


class UnlikePlaces(StateError):
    def __init__(self):
        StateError.__init__(self, "the walks have not as many places")


class UnlikeShares(StateError):
    def __init__(self):
        StateError.__init__(self, "the walks have unlike shares")


class CommandFailed(StateError):
    def __init__(self, position):
        StateError.__init__(self, "a command failed")
        self.position = position


class LabelTaken(StateError):
    def __init__(self, label):
        StateError.__init__(self, "the label is taken")
        self.label = label


class NameTaken(StateError):
    def __init__(self, name):
        StateError.__init__(self, "the name is taken")
        self.name = name


class NeverMeet(StateError):
    def __init__(self):
        StateError.__init__(self, "the walks need not meet")


class NothingToRedo(StateError):
    def __init__(self):
        StateError.__init__(self, "nothing was taken back")


class NothingToUndo(StateError):
    def __init__(self):
        StateError.__init__(self, "nothing can be taken back")


class TooMuch(StateError):
    def __init__(self):
        StateError.__init__(self, "beyond the room of the ring")


class UnlikeSizes(StateError):
    def __init__(self):
        StateError.__init__(self, "the tables are of unlike sizes")


class LimitError(ArithmeticError):
    """There would be more than is let."""


class TooMany(LimitError):
    def __init__(self, what, limit):
        LimitError.__init__(self, "too many of these")
        self.what = what
        self.limit = limit
