"""A text that is read lexeme by lexeme."""

from movedactors.errors import BadText
from movedactors.words import DIGITS, LETTERS, LONGEST

SIGNS = "()[]{},;:$"


class Tape:
    """A text and the place up to which it has been read.

    The next lexeme is looked for only when it is asked for, so that a wrong lexeme is told ahead of a place
    behind it where none begins.
    """

    def __init__(self, text):
        self._text = text
        self._start = 0
        self._end = None

    def next_lexeme(self):
        """The lexeme that comes next, "" at the end of the text."""
        if self._end is None:
            self._start = behind_blanks(self._text, self._start)
            self._end = lexeme_end(self._text, self._start)
        return self._text[self._start:self._end]

    def take(self, is_right):
        """Takes the next lexeme and returns it, if it has been found to be right."""
        lexeme = self.next_lexeme()
        if not is_right:
            raise BadText(self._start)
        self._start = self._end
        self._end = None
        return lexeme

    def took(self, lexeme):
        """Takes the next lexeme if it is this one, and returns whether it is."""
        is_right = self.next_lexeme() == lexeme
        if is_right:
            self.take(True)
        return is_right

    def take_this(self, lexeme):
        """Takes the next lexeme, which has to be this one."""
        self.take(self.next_lexeme() == lexeme)

    def take_word(self):
        """Takes the next lexeme, which has to be a word, and returns it."""
        lexeme = self.next_lexeme()
        return self.take(lexeme != "" and lexeme[0] in LETTERS)

    def take_number(self):
        """Takes the next lexeme, which has to be a number, and returns it."""
        lexeme = self.next_lexeme()
        return int(self.take(lexeme != "" and lexeme[0] in DIGITS))


def behind_blanks(text, place):
    """The first place from this one on where neither a blank nor a line feed stands."""
    while place < len(text) and text[place] in " \n":
        place += 1
    return place


def lexeme_end(text, place):
    """The end of the lexeme that begins at a place, which is the place itself at the end of the text."""
    if place == len(text):
        return place
    sign = text[place]
    if sign in SIGNS or sign == "0":
        return place + 1
    if sign in DIGITS:
        return run_end(text, place, DIGITS)
    if sign not in LETTERS:
        raise BadText(place)
    end = run_end(text, place, LETTERS + DIGITS)
    if end - place > LONGEST:
        raise BadText(place)
    return end


def run_end(text, place, signs):
    """The end of the run of such signs that begins at a place."""
    while place < len(text) and text[place] in signs:
        place += 1
    return place
