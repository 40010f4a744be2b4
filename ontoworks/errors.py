"""The errors that the program raises."""


class OntoError(ValueError):
    """The base class of all errors that the program raises."""


class FaultyText(OntoError):
    """A text cannot be read, or has a problem."""

    def __init__(self, line, column, reason):
        self.line = line
        self.column = column
        self.reason = reason


class NoSuchAxiom(OntoError):
    """No axiom has the name."""

    def __init__(self, name):
        self.name = name


class NoSuchConcept(OntoError):
    """No concept has the name."""

    def __init__(self, name):
        self.name = name


class TooLarge(OntoError):
    """The axioms or a question have too many atoms."""

    def __init__(self, count):
        self.count = count


class NoSuchVersion(OntoError):
    """A version lies further back than the changes that can be taken back."""


class AlreadyWatched(OntoError):
    """The same question is watched already."""


class NotWatched(OntoError):
    """The question is not watched."""


class TooManyQuestions(OntoError):
    """No further question can be watched."""


class NothingToTakeBack(OntoError):
    """There is no change that can be taken back."""


class WrongCount(OntoError):
    """There is not one item for each axiom."""
