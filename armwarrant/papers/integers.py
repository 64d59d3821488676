"""Papers as heads and integers."""
from armwarrant.errors import InvalidPaper

MOST_DIGITS = 24


def written(head, integers):
    """Return the paper with a head and integers."""
    row = " ".join([str(number) for number in integers])
    return head + "\n" + row + "\n"


class Integers:
    """The integers of a paper, and the index of the next one.

    Each of the methods raises InvalidPaper if the integers are not as they should be.
    """

    def __init__(self, head, text):
        rows = text.split("\n")
        if len(rows) != 3 or rows[0] != head or rows[2] != "":
            raise InvalidPaper("the text has not two lines with this head")
        self.row = [_integer(word) for word in rows[1].split(" ")]
        self.at = 0

    def take(self):
        """Return the next integer."""
        if self.at >= len(self.row):
            raise InvalidPaper("the text ends too early")
        self.at += 1
        return self.row[self.at - 1]

    def take_below(self, bound):
        """Return the next integer, which is from 0 to the bound, without the bound itself."""
        number = self.take()
        if not 0 <= number < bound:
            raise InvalidPaper("an integer is not one of those that may stand there")
        return number

    def take_size(self):
        """Return the size of a list; each of its members has one integer at least."""
        return self.take_below(len(self.row) - self.at)

    def take_row(self, size):
        """Return a list of so many integers."""
        return [self.take() for _ in range(size)]

    def check_end(self):
        """Check that nothing is left over."""
        if self.at < len(self.row):
            raise InvalidPaper("something is left over")


def _integer(word):
    """Return the integer that a word stands for."""
    digits = word[1:] if word.startswith("-") else word
    if not (digits.isascii() and digits.isdigit() and len(digits) <= MOST_DIGITS):
        raise InvalidPaper("a word is no integer")
    if digits[0] == "0" and word != "0":
        raise InvalidPaper("an integer has needless zeros, or a needless sign")
    return int(word)
