"""The errors of the package; what each one tells stands in its attributes."""


class StopError(ValueError):
    """What all errors of this package are."""


class BadTree(StopError):
    """What must be a tree is none."""


class BadWord(StopError):
    """What must be a word is none."""


class BadText(StopError):
    """A text cannot be read from this place on; wanted tells what could stand there."""

    def __init__(self, line, column, wanted):
        self.line = line
        self.column = column
        self.wanted = wanted


class BadPlace(StopError):
    """What must be a place of a text or of a code is none."""


class BadNames(StopError):
    """Names cannot be put in the place of others by this."""


class BadTexts(StopError):
    """What must be the texts of units is no list of 1 to 6 items."""


class BadName(StopError):
    """This name means nothing here."""


class BadCount(StopError):
    """What must be a count of registers is none."""

    def __init__(self, count):
        self.count = count


class BadUnit(StopError):
    """What must be a unit is none."""


class BadUnits(StopError):
    """What must be units is no list of such, or has a wrong item."""

    def __init__(self, at):
        self.at = at


class NoUnit(StopError):
    """No unit has this name."""

    def __init__(self, name):
        self.name = name


class UsesRing(StopError):
    """Units use one another in a ring."""

    def __init__(self, ring):
        self.ring = ring


class BadFaces(StopError):
    """What must be the faces that a unit uses are none."""


class BadPoint(StopError):
    """What must be the point of a statement is none."""


class BadPath(StopError):
    """What must lead to an expression leads to none."""


class NoFunction(StopError):
    """No function that can be taken here has this name."""

    def __init__(self, name):
        self.name = name


class Faulty(StopError):
    """A unit has a fault."""

    def __init__(self, fault, unit):
        self.fault = fault
        self.unit = unit


class KindClash(StopError):
    """Two uses in a unit ask two kinds of one thing."""

    def __init__(self, clash, unit):
        self.clash = clash
        self.unit = unit


class TwoNames(StopError):
    """Two units have one name for a function, a kind or a variant."""

    def __init__(self, name):
        self.name = name


class BadProgram(StopError):
    """What must be a program is none."""


class BadArguments(StopError):
    """What must be the arguments of a function are none."""


class BadMost(StopError):
    """What must be a bound of a run is none."""


class NotNow(StopError):
    """A moment cannot be told now."""

    def __init__(self, word):
        self.word = word


class BadMoment(StopError):
    """What must be a moment is none."""


class BadChosen(StopError):
    """What must choose variables of a moment does not."""


class BadScope(StopError):
    """What must be a scope is none."""


class BadKinds(StopError):
    """What must be declarations of kinds are none."""


class BadFunctions(StopError):
    """What must tell the kinds of functions does not."""

    def __init__(self, name):
        self.name = name


class Unknown(StopError):
    """A scope does not know this name."""

    def __init__(self, name):
        self.name = name


class BadCode(StopError):
    """What must be code of this level is none."""


class BadCodes(StopError):
    """What must be codes are none, or one of them is none."""

    def __init__(self, at):
        self.at = at


class BadSpot(StopError):
    """What must be a spot of a code is none."""


class BadState(StopError):
    """What must be a state of a run is none."""


class BadWalk(StopError):
    """What must be codes that can be run so are none."""


class BadBlock(StopError):
    """What must be a block of a code is none."""


class BadStep(StopError):
    """What must be a step of rewriting has not its form."""


class Refused(StopError):
    """A step of rewriting may not be done."""

    def __init__(self, why):
        self.why = why


class BadRows(StopError):
    """What must be a list of steps is none, or has a wrong item."""

    def __init__(self, at):
        self.at = at


class BadSlots(StopError):
    """What must be places for slots are none."""


class BadSpans(StopError):
    """What must be spans are none, or one of them is none."""

    def __init__(self, at):
        self.at = at


class BadRoom(StopError):
    """What must be a number of registers to be filled is none."""


class BadPrices(StopError):
    """What must be prices are none."""


class NotStraight(StopError):
    """A code has more than one block."""


class BadPairs(StopError):
    """What must be moves are none, or one of them is none."""

    def __init__(self, at):
        self.at = at


class BadHelpers(StopError):
    """What must be helping registers are none."""


class BadPlaces(StopError):
    """What must be a placing of a code is none."""


class BadPaper(StopError):
    """What must be the paper of a code is none."""


class BadChanges(StopError):
    """What must be changes of codes are none, or one of them is none."""

    def __init__(self, at):
        self.at = at


class BadWaiting(StopError):
    """What must tell whether a frame waits does not."""


class BadHeap(StopError):
    """What must be a heap is none."""


class BadWords(StopError):
    """What must be words with their kinds are none."""


class BadAddresses(StopError):
    """What must be new addresses of boxes are none."""


class BadDepth(StopError):
    """What must be the number of a told frame is none."""


class NotTold(StopError):
    """A variable of this name is not told there."""

    def __init__(self, name):
        self.name = name


class BadRegisters(StopError):
    """What must be a number of registers is none."""


class BadObject(StopError):
    """What must be an object is none."""

    def __init__(self, at):
        self.at = at


class BadObjects(StopError):
    """What must be objects by their names are none."""

    def __init__(self, name):
        self.name = name


class TwoUnits(StopError):
    """Two objects are of one unit."""

    def __init__(self, name):
        self.name = name


class BadOrder(StopError):
    """What must be an order of units is none."""


class OtherRegisters(StopError):
    """Objects are made for unlike numbers of registers."""


class Missing(StopError):
    """A unit that is used has no object."""

    def __init__(self, unit):
        self.unit = unit


class OtherFace(StopError):
    """A unit has another face than the one that is used."""

    def __init__(self, unit):
        self.unit = unit


class BadBundle(StopError):
    """What must be a bundle is none."""


class BadNumber(StopError):
    """What must be a number for these bits is none."""


class BadBits(StopError):
    """What must be bits cannot be read."""

    def __init__(self, at):
        self.at = at


class BadInstruction(StopError):
    """What must be instructions are none, or one of them is none."""

    def __init__(self, at):
        self.at = at


class BadOrders(StopError):
    """What must be orders of blocks are none."""


class BadLong(StopError):
    """What must be long leaps are none."""


class BadLeap(StopError):
    """What must be a leap of a bundle is none."""


class BadLayout(StopError):
    """What must be a layout is none."""


class BadImage(StopError):
    """What must be an image is none."""


class BadAddress(StopError):
    """What must be an address of an instruction is none."""
