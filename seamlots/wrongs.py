"""The errors of Seamlots.

The texts never show what was passed: that may be any value, also one that Python refuses to write out.
"""


class SeamError(ValueError):
    """Any error that Seamlots raises on purpose."""


class NoMachine(SeamError):
    """What should be a machine is none."""


class NoWord(SeamError):
    """What should be a word of the machine is none."""


class NotAlike(SeamError):
    """Two machines have other numbers of letters."""


class NoCut(SeamError):
    """What should be a cut of the machine is none."""


class NoChain(SeamError):
    """What should be a chain of cuts of the machine is none."""


class NotClosed(SeamError):
    """A machine that should be closed is not."""


class NoPattern(SeamError):
    """What should be a pattern of these letters is none."""


class NoLetters(SeamError):
    """What should be a number of letters is none."""


class NoLengths(SeamError):
    """What should be lengths are none."""


class NoWay(SeamError):
    """What should be a way to make a machine of others is none."""


class NoRecord(SeamError):
    """What should be a record is none."""


class NoName(SeamError):
    """What should be a name is none."""

    def __init__(self, name):
        super().__init__("this is no name")
        self.name = name


class NameTaken(SeamError):
    """Another machine is stored under the name."""

    def __init__(self, name):
        super().__init__("this name is taken")
        self.name = name


class UnknownName(SeamError):
    """No machine is stored under the name."""

    def __init__(self, name):
        super().__init__("no machine has this name")
        self.name = name


class NoMark(SeamError):
    """There is no mark of the number."""

    def __init__(self, number):
        super().__init__("no mark has this number")
        self.number = number


class TooMany(SeamError):
    """Something has more than the limit allows."""

    def __init__(self, limit):
        super().__init__("this is more than the limit")
        self.limit = limit
