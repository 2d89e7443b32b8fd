"""Words, names and numbers, and a place in the words of a text."""

from nestcall.errors import BadText

LETTERS = "abcdefghijklmnopqrstuvwxyz"
DIGITS = "0123456789"
LONGEST_NAME = 12
LONGEST_NUMBER = 5
LARGEST = 65535

KEY_WORDS = (
    "asset", "contract", "var", "hold", "proc", "shown", "hidden", "end",
    "set", "need", "give", "get", "move", "ask", "call", "if", "else",
    "given", "have", "out", "mod",
)


def is_name(word):
    """Whether a word is a name."""
    if word == "" or len(word) > LONGEST_NAME or word in KEY_WORDS:
        return False
    return word[0] in LETTERS and all([sign in LETTERS or sign in DIGITS for sign in word])


def number_of(word):
    """The number that a word writes, or None."""
    number = digits_value(word, LONGEST_NUMBER)
    return number if number is not None and number <= LARGEST else None


def digits_value(word, longest):
    """The number that a word writes with at most so many digits and without a leading zero, or None."""
    if word == "" or len(word) > longest:
        return None
    if not all([sign in DIGITS for sign in word]):
        return None
    if word[0] == "0" and word != "0":
        return None
    return int(word)


class Cursor:
    """A place in the words of a text.

    The methods that take a word move on behind it, or refuse it with BadText.
    """

    def __init__(self, text):
        self.words = text.split(" ") if text != "" else []
        self.at = 0

    def word(self):
        """The word at this place.

        Behind the last word it is the empty word, since that fits nowhere either.
        """
        return self.words[self.at] if self.at < len(self.words) else ""

    def at_end(self):
        """Whether no word is left."""
        return self.at == len(self.words)

    def skip(self, word):
        """Moves on if this word stands here, and tells whether it does."""
        if self.word() != word:
            return False
        self.at += 1
        return True

    def take(self, choices):
        """Takes one of some words."""
        word = self.word()
        if word not in choices:
            raise BadText(self.at)
        self.at += 1
        return word

    def take_new_name(self, used):
        """Takes a name that is not among the used ones."""
        name = self.word()
        if not is_name(name) or name in used:
            raise BadText(self.at)
        self.at += 1
        return name

    def take_number(self, least, most):
        """Takes a number within two bounds."""
        number = number_of(self.word())
        if number is None or number < least or number > most:
            raise BadText(self.at)
        self.at += 1
        return number
