"""The refusals of calls, one class for each number that is answered."""


class Refusal(Exception):
    """A call that is not carried out, and the number that it answers."""

    def __init__(self, number):
        self.number = number


class NoVariables(Refusal):
    """No variables are held yet."""

    def __init__(self):
        Refusal.__init__(self, -1)


class NoDiagram(Refusal):
    """No diagram has the number that was told."""

    def __init__(self):
        Refusal.__init__(self, -2)


class StoreFull(Refusal):
    """The store would come to have too many nodes."""

    def __init__(self):
        Refusal.__init__(self, -3)


class WrongArgument(Refusal):
    """There is no such variable or choice, or a row or a bound is not as it has to be."""

    def __init__(self):
        Refusal.__init__(self, -5)


class NothingToTell(Refusal):
    """What is asked for is not there: a node of 0 or 1, a chance given what never is, the best of no truths."""

    def __init__(self):
        Refusal.__init__(self, -6)
