"""Reading the text of a program."""
from armwarrant.errors import InvalidProgram
from armwarrant.programs.program import Program
from armwarrant.programs.words import is_name, read_count, split_words

STATEMENTS = ("move", "set", "wait", "take", "release", "if", "repeat", "call")
MOST_ROUTINES = 12
MOST_BRACES = 8


def read_program(text):
    """Return the program of a text; raise InvalidProgram for its first wrong word."""
    reader = Reader(split_words(text))
    routines = []
    while len(routines) < MOST_ROUTINES and reader.next_word() == "routine":
        names = [name for name, _ in routines]
        routines.append(reader.take_routine(names))
    expected = "a statement or a routine" if len(routines) < MOST_ROUTINES else "a statement"
    body = []
    while reader.next_word() is not None:
        body.append(reader.take_statement(expected, 0))
        expected = "a statement"
    return Program(routines, body)


class Reader:
    """The words of a text, and the index of the next one."""

    def __init__(self, words):
        self.words = words
        self.at = 0

    def next_word(self):
        """Return the next word, or None behind the last one."""
        if self.at < len(self.words):
            return self.words[self.at][0]
        return None

    def take_routine(self, names):
        """Read a routine with a name that is none of these; return its name and its statements."""
        self._step()
        if self.next_word() in names:
            self._fail("a name of its own")
        name = self._take_name()
        return (name, self._take_block(1))

    def take_statement(self, expected, depth):
        """Read a statement in so many braces; what is expected is told if none begins here."""
        word = self.next_word()
        if word in ("if", "repeat") and depth == MOST_BRACES:
            self._fail("a statement without braces")
        if word not in STATEMENTS:
            self._fail(expected)
        self._step()
        if word == "release":
            return (word,)
        if word == "repeat":
            return (word, self._take_count(), self._take_block(depth + 1))
        name = self._take_name()
        if word in ("set", "wait"):
            return (word, name, self._take_switch())
        if word == "if":
            return (word, name, self._take_block(depth + 1), self._take_else(depth + 1))
        return (word, name)

    def _take_block(self, depth):
        """Read braces, of which so many are then open, and return the statements in them."""
        self._take_brace()
        found = []
        while self.next_word() != "}":
            found.append(self.take_statement("a statement or }", depth))
        self._step()
        return found

    def _take_else(self, depth):
        """Read the second braces of an if, or nothing if there are none."""
        if self.next_word() != "else":
            return []
        self._step()
        return self._take_block(depth)

    def _take_brace(self):
        if self.next_word() != "{":
            self._fail("{")
        self._step()

    def _take_name(self):
        word = self.next_word()
        if word is None or not is_name(word):
            self._fail("a name")
        self._step()
        return word

    def _take_switch(self):
        word = self.next_word()
        if word not in ("on", "off"):
            self._fail("on or off")
        self._step()
        return word == "on"

    def _take_count(self):
        word = self.next_word()
        count = None if word is None else read_count(word)
        if count is None:
            self._fail("a count")
        self._step()
        return count

    def _step(self):
        self.at += 1

    def _fail(self, expected):
        """Raise the error for the next word, or for the end of the text."""
        if self.at < len(self.words):
            _, line, column = self.words[self.at]
            raise InvalidProgram(line, column, expected)
        _, line, column = self.words[-1]
        raise InvalidProgram(line, column, f"{expected} behind this word")
