"""The errors of the package: each is directly below MakerError."""


class MakerError(ValueError):
    """What is wrong with a value that was passed."""


class BadBarred(MakerError):
    """No ascending tuple of different numbers from 0 to 7."""


class BadBase(MakerError):
    """No base of the program, or none that agrees."""


class BadChoice(MakerError):
    """No choice of the program by the document."""


class BadContext(MakerError):
    """No context."""


class BadContract(MakerError):
    """No contract of the program."""


class BadDocument(MakerError):
    """No document, or none of those that are let here."""


class BadEnds(MakerError):
    """No ends by the terms and names."""


class BadEvents(MakerError):
    """No tuple of events."""


class BadGoal(MakerError):
    """No goal."""


class BadGrouping(MakerError):
    """No grouping of the program."""


class BadHeld(MakerError):
    """No names that are held."""


class BadInputs(MakerError):
    """No list of numbers from 0 to 7."""


class BadKept(MakerError):
    """No kinds that can be kept."""


class BadKind(MakerError):
    """No kind of those that are let here."""


class BadLevel(MakerError):
    """No level of experiments."""


class BadLot(MakerError):
    """No lot of the form that is wanted."""


class BadMachine(MakerError):
    """No machine."""


class BadMaker(MakerError):
    """No maker of the program by the document."""


class BadMany(MakerError):
    """No number of departures."""


class BadMemory(MakerError):
    """No memory of the form that is wanted."""


class BadModes(MakerError):
    """No modes."""


class BadMost(MakerError):
    """No bound of those that are let here."""


class BadNames(MakerError):
    """No names of the form that is wanted."""


class BadNumber(MakerError):
    """No number of those that are let here."""


class BadOptions(MakerError):
    """No options of the form that is wanted."""


class BadPairs(MakerError):
    """No lot of pairs of the document."""


class BadPart(MakerError):
    """No name of a part of the program."""


class BadPath(MakerError):
    """No path of those that are let here."""


class BadPiece(MakerError):
    """No piece of those that are let here."""


class BadPins(MakerError):
    """No pins of the program."""


class BadProgram(MakerError):
    """No program."""


class BadPrograms(MakerError):
    """No list of programs."""


class BadRecords(MakerError):
    """No list of records."""


class BadRow(MakerError):
    """No row of inputs."""


class BadRuin(MakerError):
    """Two documents are unlike in ruin."""


class BadScope(MakerError):
    """A kind has a scope that is not let here."""

    def __init__(self, kind):
        MakerError.__init__(self, f"the scope of {kind} is not let here")
        self.kind = kind


class BadSecond(MakerError):
    """The second value is no document."""


class BadShowing(MakerError):
    """No showing of the form that is wanted."""


class BadStanding(MakerError):
    """No standing by its form."""


class BadTerms(MakerError):
    """No terms."""


class BadText(MakerError):
    """A text, or the place in it where it cannot go on, and what is wanted there."""

    def __init__(self, line, column, wanted):
        MakerError.__init__(self, f"line {line}, column {column}: wanted is {wanted}")
        self.line = line
        self.column = column
        self.wanted = wanted


class BadThing(MakerError):
    """Not what can be written, or not what the text should tell."""


class BadTrace(MakerError):
    """No trace of the program."""


class BadWidth(MakerError):
    """No width."""


class FixedFill(MakerError):
    """The fill is not anew."""


class NotAhead(MakerError):
    """The memory of Nones is not ahead of the body."""


class NotTold(MakerError):
    """A request comes for which no option is told."""


class NothingDone(MakerError):
    """There is no deed to take back."""


class NothingUndone(MakerError):
    """There is no undo to take back."""


class OtherChoice(MakerError):
    """Two makers have unlike choices."""


class Ruined(MakerError):
    """Some linked run is ruined."""


class Tight(MakerError):
    """The document is not loose."""


class TooMany(MakerError):
    """There are more than most of what is looked at."""

    def __init__(self, most):
        MakerError.__init__(self, f"more than {most}")
        self.most = most


class Unnamed(MakerError):
    """A context lacks a variable that a piece names."""

    def __init__(self, name):
        MakerError.__init__(self, f"the variable {name} is lacking")
        self.name = name
