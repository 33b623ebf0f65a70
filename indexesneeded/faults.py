"""What can be wrong with a text."""

WRONG_SIGNS = 1
WRONG_TOKEN = 2
WRONG_NUMBER = 3
WRONG_WORD = 4
TOO_MANY = 5


class Fault(Exception):
    """A text's fault: its kind, and the byte where it stands."""

    def __init__(self, kind, place):
        self.kind = kind
        self.place = place
