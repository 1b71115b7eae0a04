"""The errors of the package."""


class MostspentError(ValueError):
    """The base class of all errors of the package."""


class InvalidLine(MostspentError):
    """A line of a written machine, recipe or list of entries cannot be read."""

    def __init__(self, number):
        super().__init__(f"line {number} cannot be read")
        self.number = number


class InvalidMachine(MostspentError):
    """A machine is at fault."""

    def __init__(self, word):
        super().__init__(f"the machine is at fault: {word}")
        self.word = word


class WordTooLong(MostspentError):
    """The word of a recipe would have more than 10000 letters."""


class TooManyTables(MostspentError):
    """There is no catalogue or twin catalogue, as it would have more than 100 entries."""


class TooManyPossibilities(MostspentError):
    """A search or a profile is given up."""


class NoBound(MostspentError):
    """No number up to the given one is a bound."""


class DifferentLetters(MostspentError):
    """Two machines have different numbers of letters."""


class MachineTooLarge(MostspentError):
    """A machine would have too many states or steps."""


class BenchError(MostspentError):
    """The base class of the errors that only benches raise."""


class InvalidStep(BenchError):
    """A step does not have the form of a step of the machine."""


class TooManySteps(BenchError):
    """There are 100 steps."""


class NoSuchStep(BenchError):
    """There is no step with a number."""

    def __init__(self, number):
        super().__init__(f"there is no step {number}")
        self.number = number


class TooManyChanges(BenchError):
    """There are 100 changes that can be undone."""


class NoChange(BenchError):
    """There is no change that is not undone."""
