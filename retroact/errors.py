"""The errors that the package raises."""


class RetroactError(ValueError):
    """The base class of all errors of the package."""


class TextError(RetroactError):
    """The text of a program is not written as it must be."""

    def __init__(self, line, column, reason):
        super().__init__(f"line {line}, column {column}: {reason}")
        self.line = line
        self.column = column
        self.reason = reason


class TooLarge(RetroactError):
    """Something has more parts than the limit of this name lets it have."""

    def __init__(self, limit):
        super().__init__(f"too large: {limit}")
        self.limit = limit


class Fault(RetroactError):
    """Something cannot be evaluated or run."""

    def __init__(self, reason):
        super().__init__(f"fault: {reason}")
        self.reason = reason


class ImpossibleEvent(RetroactError):
    """An event is not possible in the state that it is applied to."""

    def __init__(self, event):
        super().__init__(f"impossible event: {event}")
        self.event = event


class InvalidMoment(RetroactError):
    """A history has no such moment."""

    def __init__(self, moment):
        super().__init__(f"invalid moment: {moment}")
        self.moment = moment


class InvalidLine(RetroactError):
    """A line is not written as it must be."""

    def __init__(self, number):
        super().__init__(f"invalid line: {number}")
        self.number = number


class InvalidRules(RetroactError):
    """A rule is not proper."""

    def __init__(self, number):
        super().__init__(f"invalid rule: {number}")
        self.number = number


class NotLayered(RetroactError):
    """Names of rules lean on themselves by denial."""

    def __init__(self, names):
        super().__init__(f"not layered: {names}")
        self.names = names


class InvalidPatch(RetroactError):
    """A patch is not as described for the program that it patches."""

    def __init__(self, name):
        super().__init__(f"invalid patch: {name}")
        self.name = name


class InvalidPrices(RetroactError):
    """The prices of an effect are not as described."""

    def __init__(self, name):
        super().__init__(f"invalid prices: {name}")
        self.name = name


class UnknownEffect(RetroactError):
    """A price list does not have the effect of a call."""

    def __init__(self, name):
        super().__init__(f"unknown effect: {name}")
        self.name = name


class ConversionFault(RetroactError):
    """An expression of a patch has a fault when a state is converted."""

    def __init__(self, path, reason):
        super().__init__(f"fault at {path}: {reason}")
        self.path = path
        self.reason = reason


class InvalidUnknown(RetroactError):
    """There is no such input or argument, or the range is none."""

    def __init__(self):
        super().__init__("invalid unknown")


class InvalidJournal(RetroactError):
    """The complete lines of a text are no beginning of a saga's journal."""

    def __init__(self):
        super().__init__("invalid journal")
