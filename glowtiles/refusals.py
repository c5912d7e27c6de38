"""The errors: a refused call is answered by its code alone."""


class Refusal(Exception):
    """A call that is not carried out."""

    def __init__(self, code):
        self.code = code


class NoStack(Refusal):
    """There is no stack yet."""

    def __init__(self):
        Refusal.__init__(self, -7)


class OutOfRange(Refusal):
    """An argument is outside the range given for the operation."""

    def __init__(self):
        Refusal.__init__(self, -2)


class TooFewPictures(Refusal):
    """There is no picture, or only one where two are needed."""

    def __init__(self):
        Refusal.__init__(self, -4)


class StackFull(Refusal):
    """There are as many pictures as there may be."""

    def __init__(self):
        Refusal.__init__(self, -5)
