"""The refusals: one error class for each, with the code that is answered."""


class Refusal(Exception):
    """A call that is refused and so changes nothing."""

    def __init__(self, code):
        self.code = code


class NotCreated(Refusal):
    """A call stands ahead of the first create."""

    def __init__(self):
        Refusal.__init__(self, -11)


class NoSuchPipe(Refusal):
    """A pipe, or a choice of a pipe, doesn't exist."""

    def __init__(self):
        Refusal.__init__(self, -2)


class OutOfRange(Refusal):
    """A parameter is outside its range."""

    def __init__(self):
        Refusal.__init__(self, -22)


class TooManyPipes(Refusal):
    """There is no room for a further pipe."""

    def __init__(self):
        Refusal.__init__(self, -28)


class NoPipes(Refusal):
    """There are no pipes."""

    def __init__(self):
        Refusal.__init__(self, -6)


class NoCycle(Refusal):
    """The choices don't form a cycle."""

    def __init__(self):
        Refusal.__init__(self, -33)
