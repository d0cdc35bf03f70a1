"""Why a text or a call is refused."""

# The kinds of faults, numbered as the document numbers them.
UNENDED = 1
STRAY_BYTE = 2
WRONG_WORD = 3
WRONG_VALUE = 4
NOT_NEW = 5
NOT_KNOWN = 6
CLASHING = 7
FEW_DRAINS = 8
NO_STEP = 9


# The first fault of a text, a table's or a book's.
class TextFault(Exception):
    def __init__(self, kind, place):
        self.kind = kind
        self.place = place


# One error for each refusal of a call.
class NotRight(Exception):
    pass


class TooMuch(Exception):
    pass


class NoSuchShow(Exception):
    pass


class BadBook(Exception):
    def __init__(self, kind, place):
        self.kind = kind
        self.place = place


class BadTable(Exception):
    pass


class NotBegun(Exception):
    pass
