"""The refusals of the program."""


class MarchError(ValueError):
    # One class above all refusals, so that a caller can take any of them by one name.
    pass


# The three with fields hand nothing on to MarchError: Python itself keeps what an
# error is made of, and shows it.

class NoTest(MarchError):
    def __init__(self, element, step):
        self.element = element
        self.step = step


class NoText(MarchError):
    def __init__(self, element):
        self.element = element


class NoHarms(MarchError):
    def __init__(self, number):
        self.number = number


class NoMemory(MarchError):
    pass


class NoAddress(MarchError):
    pass


class NoBit(MarchError):
    pass


class NoOrders(MarchError):
    pass


class NotSure(MarchError):
    pass


class NoKind(MarchError):
    pass


class NoSpares(MarchError):
    pass


class NoRow(MarchError):
    pass


class NoName(MarchError):
    pass


class TooMany(MarchError):
    pass
