"""The state that the calls of one request share."""


class State:
    """The stack, its top last, and the size that all its pictures have.

    A picture is a list of four planes, one for each channel; a plane holds the values of all pixels, row by row.
    A picture is never changed once it is made: what changes it puts another in its place.
    """

    def __init__(self):
        self.width = 0
        self.height = 0
        # None, not an empty list: having no stack is refused otherwise than having no picture.
        self.pictures = None
