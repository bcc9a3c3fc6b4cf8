"""What ends a step before it has changed anything."""

TARGET_BESIDE_WORDS = 0
PC_OUTSIDE = 1
NOT_LEGAL = 2
LOAD_OUTSIDE = 5
STORE_OUTSIDE = 7


class Fault(Exception):
    """A step's fault: the number and the value that the machine's cause and value become."""

    def __init__(self, cause, value):
        Exception.__init__(self)
        self.cause = cause
        self.value = value


def require(legal, word):
    """Goes on only where the word is legal."""
    if not legal:
        raise Fault(NOT_LEGAL, word)
