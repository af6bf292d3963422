"""All errors that the program raises."""


class LateError(ValueError):
    """The base class of all errors that the program raises."""


class TextError(LateError):
    """The base class of errors in machine texts; lines count from 1, and 0 is the text as a whole."""

    def __init__(self, line, why="the text is wrong"):
        LateError.__init__(self, f"line {line}: {why}")
        self.line = line


class Malformed(TextError):
    """A line has none of the forms of lines."""

    def __init__(self, line):
        TextError.__init__(self, line, "this is no form of a line")


class Misplaced(TextError):
    """A line does not fit into the order of lines, or a line is missing."""

    def __init__(self, line):
        TextError.__init__(self, line, "this line does not fit into the order, or a state is missing")


class Repeated(TextError):
    """A channel or a state has the name of an earlier one."""

    def __init__(self, line, word):
        TextError.__init__(self, line, f"there is already one called {word}")
        self.word = word


class Unknown(TextError):
    """A rule or a ban names what the machine does not have."""

    def __init__(self, line, word):
        TextError.__init__(self, line, f"there is nothing called {word}")
        self.word = word


class TooMany(TextError):
    """There are too many channels, states, rules or characters."""

    def __init__(self, line):
        TextError.__init__(self, line, "this is more than a machine may have")


class InvalidCase(LateError):
    """The parts of a case do not fit together."""


class InvalidDelays(LateError):
    """The delays are not of the form that delays have."""


class TooLarge(LateError):
    """A search exceeds its limits."""


class MonitorFull(LateError):
    """A monitor has no room for what it was told."""


class UnknownMessage(LateError):
    """A monitor was told of a message that its case does not have."""

    def __init__(self, name):
        LateError.__init__(self, f"there is no message called {name}")
        self.name = name


class JournalError(LateError):
    """The base class of errors in journals; lines count from 1."""

    def __init__(self, line, why="the journal is wrong"):
        LateError.__init__(self, f"line {line}: {why}")
        self.line = line


class Changed(JournalError):
    """A line of a journal is not as a monitor wrote it."""

    def __init__(self, line):
        JournalError.__init__(self, line, "this line has been changed")


class Impossible(JournalError):
    """A monitor cannot make the observation of a line."""

    def __init__(self, line):
        JournalError.__init__(self, line, "this observation is not possible")
