"""What is wrong with a text that is to be a list of items."""


class Fault(Exception):
    """A fault's code, and the place in the text where it is told."""

    def __init__(self, code, place):
        Exception.__init__(self)
        self.code = code
        self.place = place
