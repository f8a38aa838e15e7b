"""The refusals: one error class for each error that the document lists."""


class Refusal(Exception):
    """A request is answered by the error with this number, and changes nothing."""

    def __init__(self, number):
        self.number = number


class Unreadable(Refusal):
    """The request cannot be read."""

    def __init__(self):
        Refusal.__init__(self, 1)


class NoTalk(Refusal):
    """There is no talk."""

    def __init__(self):
        Refusal.__init__(self, 2)


class WrongTask(Refusal):
    """The task must be tastes with weights and rewards."""

    def __init__(self):
        Refusal.__init__(self, 3)


class WrongPlan(Refusal):
    """The plan must be different proposals and an ending."""

    def __init__(self):
        Refusal.__init__(self, 4)


class NoSuchAction(Refusal):
    """There is no such action."""

    def __init__(self):
        Refusal.__init__(self, 5)


class WrongError(Refusal):
    """The error must be at most 100."""

    def __init__(self):
        Refusal.__init__(self, 6)


class WrongCost(Refusal):
    """The cost must be at most 99."""

    def __init__(self):
        Refusal.__init__(self, 7)


class WrongLevel(Refusal):
    """The level must be from -99 to 99."""

    def __init__(self):
        Refusal.__init__(self, 8)


class Decided(Refusal):
    """It is decided: an answer was yes."""

    def __init__(self):
        Refusal.__init__(self, 9)


class ProposedBefore(Refusal):
    """The action was proposed."""

    def __init__(self):
        Refusal.__init__(self, 10)


class NothingToUndo(Refusal):
    """There is nothing to undo."""

    def __init__(self):
        Refusal.__init__(self, 11)
