"""The errors of the package.

Messages never show a value that was refused: it may be any value, nested too deep to be shown.
"""


class HeldoverError(ValueError):
    """A value that was passed is not what the document asks for."""


class InvalidKinds(HeldoverError):
    """These are no declared kinds."""

    def __init__(self, problem, name):
        super().__init__(f"these are no declared kinds: {problem}")
        self.problem = problem
        self.name = name


class InvalidVersion(HeldoverError):
    """These modules are no version."""

    def __init__(self, problem, name):
        super().__init__(f"these modules are no version: {problem}")
        self.problem = problem
        self.name = name


class InvalidText(HeldoverError):
    """This is no text of modules."""

    def __init__(self, line):
        super().__init__(f"this is no text of modules: line {line}")
        self.line = line


class InvalidIndex(HeldoverError):
    """This is no index, or no text of one."""

    def __init__(self, value):
        super().__init__("this is no index, or no text of one")
        self.value = value


class InvalidTask(HeldoverError):
    """This is no task string."""

    def __init__(self, value):
        super().__init__("this is no task string")
        self.value = value


class InvalidEpoch(HeldoverError):
    """This is no epoch."""

    def __init__(self, value):
        super().__init__("this is no epoch")
        self.value = value


class InvalidStart(HeldoverError):
    """This is no start of the version."""

    def __init__(self, value):
        super().__init__("this is no start of the version")
        self.value = value


class InvalidStory(HeldoverError):
    """This is no story of the epoch."""

    def __init__(self, value):
        super().__init__("this is no story of the epoch")
        self.value = value


class InvalidCode(HeldoverError):
    """This is no code."""

    def __init__(self, value):
        super().__init__("this is no code")
        self.value = value


class InvalidCodes(HeldoverError):
    """These are no codes, or a code has another name."""

    def __init__(self, name):
        super().__init__("these are no codes, or a code has another name")
        self.name = name


class InvalidMap(HeldoverError):
    """This is no map of the code."""

    def __init__(self, value):
        super().__init__("this is no map of the code")
        self.value = value


class InvalidFrame(HeldoverError):
    """This is no frame of the codes."""

    def __init__(self, value):
        super().__init__("this is no frame of the codes")
        self.value = value


class InvalidTerm(HeldoverError):
    """This is no term, or it is not defined."""

    def __init__(self, value):
        super().__init__("this is no term, or it is not defined")
        self.value = value


class InvalidPass(HeldoverError):
    """This is no pass."""

    def __init__(self, value):
        super().__init__("this is no pass")
        self.value = value


class InvalidMinutes(HeldoverError):
    """This is no number of minutes."""

    def __init__(self, value):
        super().__init__("this is no number of minutes")
        self.value = value


class InvalidName(HeldoverError):
    """This is no name."""

    def __init__(self, value):
        super().__init__("this is no name")
        self.value = value


class InvalidArguments(HeldoverError):
    """The arguments do not fit the parameters."""

    def __init__(self, name):
        super().__init__("the arguments do not fit the parameters")
        self.name = name


class InvalidAnswer(HeldoverError):
    """This answer does not fit the question."""

    def __init__(self, value):
        super().__init__("this answer does not fit the question")
        self.value = value


class InvalidOperation(HeldoverError):
    """This is no operation."""

    def __init__(self, value):
        super().__init__("this is no operation")
        self.value = value


class InvalidRecord(HeldoverError):
    """This is no record, or it cannot happen there."""

    def __init__(self, position):
        super().__init__("this is no record, or it cannot happen there")
        self.position = position


class InvalidLog(HeldoverError):
    """A record of the log cannot happen where it stands."""

    def __init__(self, line):
        super().__init__("a record of the log cannot happen where it stands")
        self.line = line


class InvalidCount(HeldoverError):
    """This is no number of the asked sort."""

    def __init__(self, value):
        super().__init__("this is no number of the asked sort")
        self.value = value


class InvalidSide(HeldoverError):
    """This is no side."""

    def __init__(self, value):
        super().__init__("this is no side")
        self.value = value


class InvalidChoices(HeldoverError):
    """These are no choices."""

    def __init__(self, name):
        super().__init__("these are no choices")
        self.name = name


class NotFinite(HeldoverError):
    """A kind is not finite."""

    def __init__(self, name):
        super().__init__("a kind is not finite")
        self.name = name


class MissingError(LookupError):
    """There is nothing under what was passed."""


class UnknownName(MissingError):
    """Nothing has this name."""

    def __init__(self, name):
        super().__init__("nothing has this name")
        self.name = name


class UnknownStep(MissingError):
    """The run has no such step."""

    def __init__(self, value):
        super().__init__("the run has no such step")
        self.value = value


class NotFound(MissingError):
    """There is no such thing."""

    def __init__(self, value):
        super().__init__("there is no such thing")
        self.value = value


class NoPoint(MissingError):
    """There is no such point."""

    def __init__(self, value):
        super().__init__("there is no such point")
        self.value = value


class NoSlot(MissingError):
    """There is no such slot."""

    def __init__(self, slot):
        super().__init__("there is no such slot")
        self.slot = slot


class StateError(RuntimeError):
    """This cannot be done as things stand."""


class Stuck(StateError):
    """An execution cannot go on at this block."""

    def __init__(self, name, block):
        super().__init__("an execution cannot go on at this block")
        self.name = name
        self.block = block


class NoFrame(StateError):
    """There is no frame."""

    def __init__(self):
        super().__init__("there is no frame")


class Taken(StateError):
    """A task has or had this name."""

    def __init__(self, name):
        super().__init__("a task has or had this name")
        self.name = name


class NotReady(StateError):
    """There is no step to do here."""

    def __init__(self, index):
        super().__init__("there is no step to do here")
        self.index = index


class NotOpen(StateError):
    """There is no open ask here."""

    def __init__(self, index):
        super().__init__("there is no open ask here")
        self.index = index


class Conflict(StateError):
    """The ask has another answer."""

    def __init__(self, index, value):
        super().__init__("the ask has another answer")
        self.index = index
        self.value = value


class NotClosed(StateError):
    """The run of the task is not closed."""

    def __init__(self, name):
        super().__init__("the run of the task is not closed")
        self.name = name


class LimitError(ArithmeticError):
    """A number is beyond its limit."""


class TooMany(LimitError):
    """There are too many of these."""

    def __init__(self, what):
        super().__init__("there are too many of these")
        self.what = what
