"""A text's lines, and their words from left to right."""

from bouncetable.faults import Fault, NOT_ENDED, WRONG_BYTE, WRONG_FORM, WRONG_WORD

NEWLINE = 10
BLANK = 32
LAST_SIGN = 126

LETTERS = "abcdefghijklmnopqrstuvwxyz"
DIGITS = "0123456789"
UNDERSCORE = "_"

LONGEST_NAME = 12
LONGEST_NUMBER = 4


def sign_of(byte):
    """The sign of a byte; all that no name, number or fixed word can have are told alike, as a question mark."""
    if byte == BLANK:
        return " "
    if byte >= ord("a") and byte <= ord("z"):
        return LETTERS[byte - ord("a")]
    if byte >= ord("0") and byte <= ord("9"):
        return DIGITS[byte - ord("0")]
    return UNDERSCORE if byte == ord(UNDERSCORE) else "?"


def is_name(word):
    """Whether word has the form of a name."""
    if len(word) > LONGEST_NAME or word[0] not in LETTERS:
        return False
    return all([sign in LETTERS or sign in DIGITS or sign == UNDERSCORE for sign in word])


def number_of(word):
    """The number that word tells; -1 if it tells none, or one that is above every bound."""
    # A word may be as long as the text: int refuses some thousand digits, and no bound has more than four.
    if len(word) > LONGEST_NUMBER or not all([sign in DIGITS for sign in word]):
        return -1
    if word[0] == "0" and len(word) > 1:
        return -1
    return int(word)


class Line:
    """The words of one line, handed out one by one; a fault is told at the word handed out last."""

    def __init__(self, words, places, end):
        self.words = words
        self.places = places
        self.end = end
        self.given = 0

    def more(self):
        """Whether a word is left."""
        return self.given < len(self.words)

    def take(self):
        """The next word."""
        if not self.more():
            raise Fault(WRONG_WORD, self.end)
        self.given += 1
        return self.words[self.given - 1]

    def refuse_if(self, wrong, kind):
        """Tells a fault of this kind at the word handed out last, if it is wrong."""
        if wrong:
            raise Fault(kind, self.places[self.given - 1])

    def comes(self, word):
        """Whether word is the next one."""
        return self.more() and self.words[self.given] == word

    def take_fixed(self, word):
        """Takes the next word, which has to be this one."""
        self.refuse_if(self.take() != word, WRONG_WORD)

    def take_if(self, word):
        """Takes the next word if it is this one, and tells whether it was."""
        found = self.comes(word)
        if found:
            self.take()
        return found

    def take_name(self):
        """The next word, which has to be a name."""
        word = self.take()
        self.refuse_if(not is_name(word), WRONG_FORM)
        return word

    def take_number(self, low, high):
        """The number told by the next word, which has to be one from low to high."""
        number = number_of(self.take())
        self.refuse_if(number < low or number > high, WRONG_FORM)
        return number

    def finish(self):
        """Sees to it that no word is left."""
        if self.more():
            raise Fault(WRONG_WORD, self.places[self.given])


def end_of_line(text, start):
    """The place of the byte that ends the line which begins at start."""
    end = start
    while end < len(text) and text[end] != NEWLINE:
        end += 1
    if end == len(text):
        raise Fault(NOT_ENDED, end)
    return end


def check_bytes(text, start, end):
    """Sees to it that the line from start to end has only bytes that may stand where they do."""
    for place in range(start, end):
        byte = text[place]
        if byte < BLANK or byte > LAST_SIGN:
            raise Fault(WRONG_BYTE, place)
        if byte == BLANK and (place == start or text[place - 1] == BLANK or place + 1 == end):
            raise Fault(WRONG_BYTE, place)


def places_of_words(text, start, end):
    """Where the words of the line from start to end begin."""
    places = []
    for place in range(start, end):
        if place == start or text[place - 1] == BLANK:
            places.append(place)
    return places


def line_at(text, start):
    """The line that begins at start; it is ended and its bytes are right, or else that fault is told."""
    end = end_of_line(text, start)
    check_bytes(text, start, end)
    words = "".join([sign_of(byte) for byte in text[start:end]]).split()
    return Line(words, places_of_words(text, start, end), end)
