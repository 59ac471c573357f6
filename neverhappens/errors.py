"""The errors that the program raises."""


class NeverError(ValueError):
    """The base class of all errors of this package."""


class BadText(NeverError):
    """A line that no such text can have at this place."""

    def __init__(self, line):
        super().__init__(f"line {line} does not fit")
        self.line = line


class Twice(NeverError):
    """A name that is declared a second time."""

    def __init__(self, name):
        super().__init__(f"{name} is declared twice")
        self.name = name


class Unknown(NeverError):
    """A name that is not declared as what it is used for."""

    def __init__(self, name):
        super().__init__(f"{name} is not declared as what it is used for")
        self.name = name


class BadKind(NeverError):
    """A name whose kind or length is not allowed."""

    def __init__(self, name):
        super().__init__(f"{name} has a kind or a length that is not allowed")
        self.name = name


class WrongKind(NeverError):
    """A statement whose parts do not fit together."""

    def __init__(self, function, place):
        super().__init__(f"the kinds do not fit at place {place} of {function}")
        self.function = function
        self.place = place


class NoSite(NeverError):
    """A fault that the statement at this place cannot have."""

    def __init__(self, function, place, fault):
        super().__init__(f"{function} has no such place with the fault {fault}")
        self.function = function
        self.place = place
        self.fault = fault


class NoPlace(NeverError):
    """A place that the function does not have, or a function that is not there."""

    def __init__(self, function, place):
        super().__init__(f"there is no such place in a function {function}")
        self.function = function
        self.place = place


class NotAccepted(NeverError):
    """A certificate that is not accepted."""

    def __init__(self):
        super().__init__("the certificate is not accepted")


class BadCertificate(NeverError):
    """A line of a certificate's text that is no line of a row."""

    def __init__(self, line):
        super().__init__(f"line {line} is not the line of a row")
        self.line = line


class WrongChange(NeverError):
    """A function that cannot be put in the place of the one with its name."""

    def __init__(self, name):
        super().__init__(f"{name} cannot be replaced in this way")
        self.name = name


class NotPlain(NeverError):
    """A question that only plain programs have an answer to."""

    def __init__(self):
        super().__init__("the program is not plain, or its analysis is cut")


class BadWitness(NeverError):
    """A line of a witness that stands for no row."""

    def __init__(self, line):
        super().__init__(f"line {line} of the witness stands for no row")
        self.line = line


class TooLong(NeverError):
    """A list of inputs that is longer than what was asked for."""

    def __init__(self, amount):
        # The amount is not told here: it may have more digits than Python writes out.
        super().__init__("there are more inputs than were asked for")
        self.amount = amount


class NothingLoaded(NeverError):
    """A desk without a program."""

    def __init__(self):
        super().__init__("no program is loaded")


class NothingToUndo(NeverError):
    """A desk without a deed that could be taken back."""

    def __init__(self):
        super().__init__("there is nothing to undo")


class BadJournal(NeverError):
    """An entry of a journal that cannot be done again."""

    def __init__(self, position):
        super().__init__(f"the entry {position} of the journal cannot be done")
        self.position = position
