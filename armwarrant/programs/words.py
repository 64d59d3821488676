"""The words of a text, and which of them are names or counts."""

KEYWORDS = (
    "move", "set", "wait", "take", "release", "if", "else", "repeat", "call", "routine", "on", "off",
)
LETTERS = "abcdefghijklmnopqrstuvwxyz"
DIGITS = "0123456789"
LONGEST_NAME = 20
LONGEST_COUNT = 2


def split_words(text):
    """Return the words of a text, each with its line and its column, counted from 1."""
    words = []
    for at, row in enumerate(text.split("\n")):
        words.extend(_words_of_row(row.partition("#")[0], at + 1))
    return words


def is_name(word):
    """Return True if the string is a name."""
    if not 1 <= len(word) <= LONGEST_NAME or word in KEYWORDS:
        return False
    return word[0] in LETTERS and all([letter in LETTERS + DIGITS + "_" for letter in word])


def read_count(word):
    """Return the number that a count stands for, or None if the string is no count."""
    if not 1 <= len(word) <= LONGEST_COUNT or word[0] == "0":
        return None
    if not all([letter in DIGITS for letter in word]):
        return None
    return int(word)


def _words_of_row(row, line):
    """Return the words of a row without a comment."""
    words = []
    start = 0
    # The space behind the row ends its last word.
    for at, letter in enumerate(row + " "):
        if letter in " \t{}":
            if start < at:
                words.append((row[start:at], line, start + 1))
            if letter in "{}":
                words.append((letter, line, at + 1))
            start = at + 1
    return words
