"""Lines of a text, and the words of a line from left to right.

A text is a list of bytes. A word, and so a name, is a tuple of bytes.
"""

from lampshows.faults import NOT_KNOWN, NOT_NEW, STRAY_BYTE, TextFault, UNENDED, WRONG_VALUE, WRONG_WORD

NEWLINE = 10
BLANK = 32
LAST_SIGN = 126
ZERO = 48
NINE = 57
UNDERLINE = 95
SMALL_A = 97
SMALL_Z = 122
MOST_NAME_BYTES = 12
MOST_DIGITS = 5


def spelled(text):
    return tuple([ord(sign) for sign in text])


def is_letter(byte):
    return SMALL_A <= byte <= SMALL_Z


def is_digit(byte):
    return ZERO <= byte <= NINE


def is_name(word):
    if len(word) > MOST_NAME_BYTES or not is_letter(word[0]):
        return False
    for byte in word:
        if not is_letter(byte) and not is_digit(byte) and byte != UNDERLINE:
            return False
    return True


# None where the word is no number.
def number_told(word):
    # A number of more digits is above every bound, and that is the same fault as being none.
    if len(word) > MOST_DIGITS or (word[0] == ZERO and len(word) > 1):
        return None
    number = 0
    for byte in word:
        if not is_digit(byte):
            return None
        number = number * 10 + byte - ZERO
    return number


class Line:
    def __init__(self, end):
        self.words = []
        self.starts = []
        self.end = end
        self.taken = 0
        # Of the word that was taken last: faults of its meaning are told there.
        self.place = end

    def has_more(self):
        return self.taken < len(self.words)

    def sees(self, mark):
        return self.has_more() and self.words[self.taken] == spelled(mark)

    def take(self):
        if not self.has_more():
            raise TextFault(WRONG_WORD, self.end)
        word = self.words[self.taken]
        self.place = self.starts[self.taken]
        self.taken += 1
        return word

    def take_mark(self, mark):
        if self.take() != spelled(mark):
            raise TextFault(WRONG_WORD, self.place)

    def take_name(self):
        word = self.take()
        if not is_name(word):
            raise TextFault(WRONG_VALUE, self.place)
        return word

    def take_new_name(self, known):
        name = self.take_name()
        if name in known:
            raise TextFault(NOT_NEW, self.place)
        return name

    def take_known_name(self, known):
        name = self.take_name()
        if name not in known:
            raise TextFault(NOT_KNOWN, self.place)
        return name

    def take_number(self, least, most):
        number = number_told(self.take())
        if number is None or number < least or number > most:
            raise TextFault(WRONG_VALUE, self.place)
        return number

    def finish(self):
        if self.has_more():
            raise TextFault(WRONG_WORD, self.starts[self.taken])


def find_end(text, start):
    place = start
    while place < len(text) and text[place] != NEWLINE:
        place += 1
    if place == len(text):
        raise TextFault(UNENDED, place)
    return place


def check_bytes(text, start, end):
    # A blank at a line's beginning is at fault just as one behind a blank.
    before = BLANK
    for place in range(start, end):
        byte = text[place]
        if byte < BLANK or byte > LAST_SIGN:
            raise TextFault(STRAY_BYTE, place)
        if byte == BLANK and (before == BLANK or place + 1 == end):
            raise TextFault(STRAY_BYTE, place)
        before = byte


def split_words(text, start, end):
    line = Line(end)
    first = start
    for place in range(start, end + 1):
        if text[place] == BLANK or text[place] == NEWLINE:
            if first < place:
                line.words.append(tuple(text[first:place]))
                line.starts.append(first)
            first = place + 1
    return line


# One line at a time: a line's words come before the next line's bytes in the order of faults.
def read_line(text, start):
    end = find_end(text, start)
    check_bytes(text, start, end)
    return split_words(text, start, end)
