"""The refusals of the operations, one class for each error code."""


class Refusal(Exception):
    """An operation that is refused: its code is all that is answered."""

    def __init__(self, code):
        self.code = code


class NoInstance(Refusal):
    """No instance exists."""

    def __init__(self):
        Refusal.__init__(self, -11)


class NoSuchMachine(Refusal):
    """A machine index is out of range."""

    def __init__(self):
        Refusal.__init__(self, -2)


class BadParameter(Refusal):
    """A parameter is out of range or malformed."""

    def __init__(self):
        Refusal.__init__(self, -22)


class TooManyMachines(Refusal):
    """There are already as many machines as there may be."""

    def __init__(self):
        Refusal.__init__(self, -28)


class NoMachines(Refusal):
    """There are no machines."""

    def __init__(self):
        Refusal.__init__(self, -6)
