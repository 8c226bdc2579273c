"""The errors of the package, each with what was wrong as its attribute."""


class PartError(ValueError):
    """A value that is not what the call wants."""


class InvalidKind(PartError):
    """A value that is not a kind."""

    def __init__(self, value):
        self.value = value


class InvalidMany(PartError):
    """A value that is not a COUNT within its bounds."""

    def __init__(self, value):
        self.value = value


class InvalidState(PartError):
    """A value that is not a state of the kind."""

    def __init__(self, value):
        self.value = value


class InvalidStates(PartError):
    """A value that is not a list of states of the kind."""

    def __init__(self, value):
        self.value = value


class InvalidTable(PartError):
    """A value that is not a table."""

    def __init__(self, value):
        self.value = value


class InvalidView(PartError):
    """A value that is not a view of the kind."""

    def __init__(self, value):
        self.value = value


class InvalidWeb(PartError):
    """A value that is not a web."""

    def __init__(self, value):
        self.value = value


class InvalidClaim(PartError):
    """A value that is not a claim."""

    def __init__(self, value):
        self.value = value


class InvalidCommand(PartError):
    """A value that is not a command."""

    def __init__(self, value):
        self.value = value


class InvalidCopy(PartError):
    """A value that is not a copy of the web."""

    def __init__(self, value):
        self.value = value


class InvalidCulprit(PartError):
    """A value that is not a culprit of the kind."""

    def __init__(self, value):
        self.value = value


class InvalidDeeds(PartError):
    """Lines of which one is no deed."""

    def __init__(self, position):
        self.position = position


class InvalidLog(PartError):
    """A value that is not a log of the kind."""

    def __init__(self, value):
        self.value = value


class InvalidNames(PartError):
    """A value that is not a list of names."""

    def __init__(self, value):
        self.value = value


class InvalidNumber(PartError):
    """A value that is not a state of the table."""

    def __init__(self, value):
        self.value = value


class InvalidPaper(PartError):
    """A value that is not a paper of the claim."""

    def __init__(self, value):
        self.value = value


class InvalidPositions(PartError):
    """A value that is not a lower lot of positions."""

    def __init__(self, value):
        self.value = value


class InvalidQuestion(PartError):
    """A value that is not a question of the kind."""

    def __init__(self, value):
        self.value = value


class InvalidRenaming(PartError):
    """A value that is not a renaming of the kinds."""

    def __init__(self, value):
        self.value = value


class InvalidRun(PartError):
    """A value that is not a run of the kind and the web."""

    def __init__(self, value):
        self.value = value


class InvalidSort(PartError):
    """A value that is not the word of a sort."""

    def __init__(self, value):
        self.value = value


class InvalidText(PartError):
    """A text with a wrong line."""

    def __init__(self, position):
        self.position = position


class InvalidValue(PartError):
    """A value that is not of the sort."""

    def __init__(self, value):
        self.value = value


class InvalidWay(PartError):
    """A value that is not a way."""

    def __init__(self, value):
        self.value = value


class InvalidWord(PartError):
    """A value that is not one of the words."""

    def __init__(self, value):
        self.value = value


class MissingError(LookupError):
    """Something that is not there."""


class UnknownLabel(MissingError):
    """A label under which no claim is noted."""

    def __init__(self, value):
        self.value = value


class UnknownName(MissingError):
    """A name under which nothing of the sort is kept."""

    def __init__(self, value):
        self.value = value


class StateError(RuntimeError):
    """Something that cannot be done as things are."""


class CommandFailed(StateError):
    """One of several commands failed."""

    def __init__(self, position):
        self.position = position


class Endless(StateError):
    """The kind has endlessly many states."""

    def __init__(self):
        pass


class LabelTaken(StateError):
    """The label is taken."""

    def __init__(self, label):
        self.label = label


class NameTaken(StateError):
    """The name is taken."""

    def __init__(self, name):
        self.name = name


class NoRing(StateError):
    """The web has no ring."""

    def __init__(self):
        pass


class NotEven(StateError):
    """The kind has no least differences."""

    def __init__(self):
        pass


class NotSingle(StateError):
    """The kind has states with several lists."""

    def __init__(self):
        pass


class NothingToRedo(StateError):
    """No deed can be done again."""

    def __init__(self):
        pass


class NothingToUndo(StateError):
    """No deed can be taken back."""

    def __init__(self):
        pass


class UnlikeKinds(StateError):
    """The kinds are not equal."""

    def __init__(self):
        pass


class LimitError(ArithmeticError):
    """More than the package goes through."""


class TooMany(LimitError):
    """There are more of what is told than the limit."""

    def __init__(self, what, limit):
        self.what = what
        self.limit = limit
