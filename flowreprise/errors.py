"""The errors of the program."""


class FlowError(ValueError):
    """The base class of all errors of the program."""


class WrittenError(FlowError):
    """A text is not the written form of a value: so far it could have become one."""

    def __init__(self, at):
        FlowError.__init__(self, f"no written form goes on so at {at}")
        self.at = at


class ReadError(FlowError):
    """A text is not a program or an expression: the place of the word that is wrong."""

    def __init__(self, at):
        FlowError.__init__(self, f"the word at {at} cannot stand there")
        self.at = at


class FormError(FlowError):
    """A text is not the written form of data: the index where it is not one."""

    def __init__(self, at):
        FlowError.__init__(self, f"the data are not written right at {at}")
        self.at = at


class CheckError(FlowError):
    """A program is not checked: the place of its first fault."""

    def __init__(self, place):
        FlowError.__init__(self, f"the program has a fault at {place}")
        self.place = place


class VerifyError(FlowError):
    """Code is not sound: the function and the place in it."""

    def __init__(self, function, place):
        FlowError.__init__(self, f"the code of {function} is not sound at {place}")
        self.function = function
        self.place = place


class StateError(FlowError):
    """Something was asked for that the present state does not allow."""

    def __init__(self, word):
        FlowError.__init__(self, f"not in this state: {word}")
        self.word = word
