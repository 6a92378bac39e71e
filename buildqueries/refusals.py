"""The refusals of the calls: one class each, which bears the number that is answered."""


class Refusal(Exception):
    def __init__(self, number):
        self.number = number


class TextRefusal(Refusal):
    def __init__(self):
        Refusal.__init__(self, -1)


class TwiceRefusal(Refusal):
    def __init__(self):
        Refusal.__init__(self, -2)


class FullRefusal(Refusal):
    def __init__(self):
        Refusal.__init__(self, -3)


class NodeRefusal(Refusal):
    def __init__(self):
        Refusal.__init__(self, -4)


class EdgeRefusal(Refusal):
    def __init__(self):
        Refusal.__init__(self, -5)


class UnknownRefusal(Refusal):
    def __init__(self):
        Refusal.__init__(self, -16)


class Fault(Refusal):
    """A query that can't be read, and the position in its text where that shows."""

    def __init__(self, number, position):
        Refusal.__init__(self, number)
        self.position = position


class LongFault(Fault):
    def __init__(self):
        Fault.__init__(self, -11, 0)


class TokenFault(Fault):
    def __init__(self, position):
        Fault.__init__(self, -12, position)


class SyntaxFault(Fault):
    def __init__(self, position):
        Fault.__init__(self, -13, position)


class DeepFault(Fault):
    def __init__(self, position):
        Fault.__init__(self, -14, position)


class VariableFault(Fault):
    def __init__(self, position):
        Fault.__init__(self, -15, position)


class SecondRefusal(Refusal):
    """What a query is refused with, where it is the second of two."""

    def __init__(self, number):
        Refusal.__init__(self, number - 10)
