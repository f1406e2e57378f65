"""The errors of the package: each stands directly under ToldError."""


class ToldError(ValueError):
    """The base class of all errors of the package."""


class InvalidProgram(ToldError):
    """A part of a program, or a row of it, is not allowed."""

    def __init__(self, part, path):
        self.part = part
        self.path = path


class InvalidRule(ToldError):
    """A part of a rule is not allowed."""

    def __init__(self, part):
        self.part = part


class InvalidStart(ToldError):
    """The words are not one word of the program for each source."""

    def __init__(self, words):
        self.words = words


class InvalidStanding(ToldError):
    """The value is no standing of the program under the rule."""


class InvalidDeed(ToldError):
    """The value is no deed that may be done here."""

    def __init__(self, deed):
        self.deed = deed


class InvalidPath(ToldError):
    """The value is not the path of a row."""

    def __init__(self, path):
        self.path = path


class InvalidBound(ToldError):
    """The value is not an integer that may be a bound."""

    def __init__(self, value):
        self.value = value


class InvalidText(ToldError):
    """A line of a text is not allowed."""

    def __init__(self, line):
        self.line = line


class UnknownCell(ToldError):
    """The program has nothing of this name that is asked for."""

    def __init__(self, name):
        self.name = name


class UnknownWord(ToldError):
    """The value is not a word of the program."""

    def __init__(self, word):
        self.word = word


class TooManyRuns(ToldError):
    """One more run of an effect than the bound allows would start."""

    def __init__(self, most):
        self.most = most


class NothingToUndo(ToldError):
    """There is nothing that can be taken back."""


class LimitExceeded(ToldError):
    """There are more standings than the limit allows."""

    def __init__(self, limit):
        self.limit = limit


class NoStanding(ToldError):
    """The value is not a standing of the book."""


class NoFault(ToldError):
    """The book does not have the fault."""

    def __init__(self, kind, name):
        self.kind = kind
        self.name = name


class InvalidKind(ToldError):
    """The kind is no kind of fault."""

    def __init__(self, kind):
        self.kind = kind


class NotComparable(ToldError):
    """Two programs differ in a part in which they must be equal."""

    def __init__(self, part):
        self.part = part


class UnknownName(ToldError):
    """The program has no derived cell and no effect of this name."""

    def __init__(self, name):
        self.name = name


class InvalidChange(ToldError):
    """The change at this index is none, or stands there a second time."""

    def __init__(self, index):
        self.index = index


class NothingToRedo(ToldError):
    """There is nothing that can be done again."""


class InvalidSources(ToldError):
    """The value is not a set of sources of the program."""

    def __init__(self, sources):
        self.sources = sources
