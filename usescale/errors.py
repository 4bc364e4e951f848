"""The errors of the package, each with its arguments as attributes.

The messages name no numbers: an integer of several thousand figures has no text that Python would make of it.
"""


class UsescaleError(ValueError):
    """The base class of all errors of the package but those about missing names."""


class BadScale(UsescaleError):
    """There is no such scale."""


class EndlessScale(UsescaleError):
    """A scale with endlessly many grades stands where finitely many are needed."""


class MixedScales(UsescaleError):
    """Things of different scales are put together."""


class NegativeCount(UsescaleError):
    """A count is below 0."""

    def __init__(self, count):
        UsescaleError.__init__(self, "the count is below 0")
        self.count = count


class NoBound(UsescaleError):
    """Two grades have no least bound."""

    def __init__(self, name, first, second):
        UsescaleError.__init__(self, f"{first} and {second} have no least bound")
        self.name = name
        self.first = first
        self.second = second


class BadText(UsescaleError):
    """A text cannot be read on from a place."""

    def __init__(self, at):
        UsescaleError.__init__(self, "the text cannot be read")
        self.at = at


class NoRedex(UsescaleError):
    """There is no redex at a place."""

    def __init__(self, place):
        UsescaleError.__init__(self, "there is no redex at the place")
        self.place = place


class BadMap(UsescaleError):
    """There is no such map of scales."""


class TooMany(UsescaleError):
    """A scale has too many grades for a search."""

    def __init__(self, size):
        UsescaleError.__init__(self, "the scale has too many grades")
        self.size = size


class BadCode(UsescaleError):
    """A code breaks a rule at a row of a block."""

    def __init__(self, block, row):
        UsescaleError.__init__(self, "the code breaks a rule")
        self.block = block
        self.row = row


class CheckError(UsescaleError):
    """The base class of the errors that a check raises."""


class KindClash(CheckError):
    """A part has another kind than it must have."""

    def __init__(self, wanted, found):
        CheckError.__init__(self, "a part has another kind than it must have")
        self.wanted = wanted
        self.found = found


class WrongForm(CheckError):
    """A kind has not the form that a rule asks for."""

    def __init__(self, word, found):
        CheckError.__init__(self, f"a part has not the form {word}")
        self.word = word
        self.found = found


class Overuse(CheckError):
    """A name is used in a way that does not lie within its grade."""

    def __init__(self, name, used, allowed):
        CheckError.__init__(self, f"{name} is used {used}, which does not lie within {allowed}")
        self.name = name
        self.used = used
        self.allowed = allowed


class NoTurns(CheckError):
    """No grade is enough for what the turns of a repetition use of a name."""

    def __init__(self, name):
        CheckError.__init__(self, f"no grade of {name} is enough for all turns")
        self.name = name


class TwiceBound(CheckError):
    """A name is bound twice at one place."""

    def __init__(self, name):
        CheckError.__init__(self, f"{name} is bound twice")
        self.name = name


class LooseGap(CheckError):
    """A gap stands where nothing gives it a grade."""

    def __init__(self, name):
        CheckError.__init__(self, f"the gap at {name} is loose")
        self.name = name


class GoneTerm(CheckError):
    """An erased term is checked."""


class RunError(UsescaleError):
    """The base class of the errors that a run raises."""


class OutOfMoves(RunError):
    """A run would make more moves than it may."""

    def __init__(self, bound):
        RunError.__init__(self, "there are no moves left")
        self.bound = bound


class GoneReached(RunError):
    """A run needs a term that was erased."""


class NotDone(RunError):
    """The answer is asked for before the run is over."""


class BookError(UsescaleError):
    """The base class of the errors that a workbook raises."""


class Refused(BookError):
    """A definition is refused."""

    def __init__(self, name):
        BookError.__init__(self, f"the definition of {name} is refused")
        self.name = name


class InUse(BookError):
    """A definition is mentioned by others."""

    def __init__(self, name, users):
        BookError.__init__(self, f"{name} is mentioned by other definitions")
        self.name = name
        self.users = list(users)


class BadName(BookError):
    """A string is no name."""

    def __init__(self, name):
        BookError.__init__(self, f"{name} is no name")
        self.name = name


class BadLimit(BookError):
    """A number of moves is no limit."""

    def __init__(self, bound):
        BookError.__init__(self, "the limit is too low or too high")
        self.bound = bound


class WrongCount(BookError):
    """A program is given more or fewer values than it has inputs."""

    def __init__(self, wanted, found):
        BookError.__init__(self, "the number of values is not the number of inputs")
        self.wanted = wanted
        self.found = found


class TooLarge(BookError):
    """A term is too large for a workbook."""

    def __init__(self, size):
        BookError.__init__(self, "the term is too large")
        self.size = size


class NameMissing(LookupError):
    """The base class of the errors about names that mean nothing."""


class UnknownGrade(NameMissing):
    """No grade has the name."""

    def __init__(self, name):
        NameMissing.__init__(self, f"no grade is called {name}")
        self.name = name


class UnboundName(NameMissing):
    """Nothing is bound to the name."""

    def __init__(self, name):
        NameMissing.__init__(self, f"nothing is bound to {name}")
        self.name = name


class Undefined(NameMissing):
    """No definition has the name."""

    def __init__(self, name):
        NameMissing.__init__(self, f"{name} is not defined")
        self.name = name
