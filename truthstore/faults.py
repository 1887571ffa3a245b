"""The one fault of a text that cannot be taken."""

TOO_LONG = 1
NO_TOKEN = 2
NOT_ALLOWED = 3
TOO_MANY = 4
TOO_DEEP = 4
TAKEN_NAME = 5
UNKNOWN_NAME = 6
OUT_OF_BOUNDS = 7


class Fault(Exception):
    """A code, and the offset in the text where it holds."""

    def __init__(self, code, place):
        self.code = code
        self.place = place
