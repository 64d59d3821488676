"""Points [53] and [54]: the words of a text, names and counts."""
import unittest

from armwarrant.programs.words import is_name, read_count, split_words

KEYWORDS = "move set wait take release if else repeat call routine on off".split()
TEXT_LETTERS = [chr(code) for code in range(32, 127) if chr(code) != "%"]


class TestSplitWords(unittest.TestCase):
    def check(self, text, *words):
        with self.subTest(text):
            self.assertEqual(split_words(text), list(words))

    def test_nothing(self):
        for text in ("", " ", "\n", "\t", " \n\t\n ", "# a comment", "  # {a} b\n#\n##"):
            self.check(text)

    def test_words_lines_and_columns(self):
        self.check("move a", ("move", 1, 1), ("a", 1, 6))
        self.check("a", ("a", 1, 1))
        self.check("  ab   cd  ", ("ab", 1, 3), ("cd", 1, 8))
        self.check("a\nb", ("a", 1, 1), ("b", 2, 1))
        self.check("ab\n  cd ef\n", ("ab", 1, 1), ("cd", 2, 3), ("ef", 2, 6))
        self.check("\n\n\na\n\n b", ("a", 4, 1), ("b", 6, 2))

    def test_a_tab_is_one_column(self):
        self.check("\ta\tb\t\tc", ("a", 1, 2), ("b", 1, 4), ("c", 1, 7))
        self.check("a\t\n\tb", ("a", 1, 1), ("b", 2, 2))

    def test_braces_are_words_of_their_own(self):
        self.check("{", ("{", 1, 1))
        self.check("}", ("}", 1, 1))
        self.check("a{b}c", ("a", 1, 1), ("{", 1, 2), ("b", 1, 3), ("}", 1, 4), ("c", 1, 5))
        self.check("{{}}", ("{", 1, 1), ("{", 1, 2), ("}", 1, 3), ("}", 1, 4))
        self.check("if i{ab } else\n{\n}", ("if", 1, 1), ("i", 1, 4), ("{", 1, 5), ("ab", 1, 6), ("}", 1, 9),
                   ("else", 1, 11), ("{", 2, 1), ("}", 3, 1))

    def test_comments(self):
        self.check("a # b\nc", ("a", 1, 1), ("c", 2, 1))
        self.check("ab#cd\nef", ("ab", 1, 1), ("ef", 2, 1))
        self.check("a{#}\n}#", ("a", 1, 1), ("{", 1, 2), ("}", 2, 1))
        self.check("a # b # c\n# d\n e", ("a", 1, 1), ("e", 3, 2))
        self.check("a\t#\tb", ("a", 1, 1))

    def test_every_other_character_is_one_of_words(self):
        for letter in TEXT_LETTERS:
            if letter in " {}#":
                continue
            self.check(letter, (letter, 1, 1))
            self.check(f"a{letter}b c", (f"a{letter}b", 1, 1), ("c", 1, 5))

    def test_a_long_word(self):
        self.check("x" * 1999, ("x" * 1999, 1, 1))
        self.check(" " * 1999 + "x", ("x", 1, 2000))
        self.check("\n" * 1999 + "x", ("x", 2000, 1))

    def test_the_results_are_tuples_in_a_list(self):
        self.assertIs(type(split_words("")), list)
        self.assertTrue(all(type(word) is tuple for word in split_words("a { b }")))


class TestIsName(unittest.TestCase):
    def check(self, word, told):
        with self.subTest(word):
            self.assertIs(is_name(word), told)

    def test_lengths(self):
        self.check("", False)
        for length in (1, 2, 19, 20):
            self.check("a" * length, True)
            self.check("z" * (length - 1) + "9", length > 1)
        for length in (21, 22, 100):
            self.check("a" * length, False)

    def test_characters(self):
        good = "abcdefghijklmnopqrstuvwxyz0123456789_"
        for letter in TEXT_LETTERS + ["\n", "\t", "\x7f", "\xe4", "\xb2", "\u0661", "\uff41"]:
            self.check("a" + letter, letter in good)
            self.check("a" + letter + "b", letter in good)

    def test_the_first_character(self):
        for letter in TEXT_LETTERS + ["\n", "\t", "\xe4", "\xb2", "\u0661", "\uff41"]:
            self.check(letter, letter in "abcdefghijklmnopqrstuvwxyz")
            self.check(letter + "b", letter in "abcdefghijklmnopqrstuvwxyz")
        for word in ("_", "_a", "9", "9a", "0"):
            self.check(word, False)

    def test_keywords(self):
        self.assertEqual(len(KEYWORDS), 12)
        for word in KEYWORDS:
            self.check(word, False)
            for name in (word + "_", word + "1", word + word, "a" + word, "x_" + word):
                self.check(name, True)
            self.check(word.upper(), False)
            self.check(" " + word, False)

    def test_names(self):
        for word in ("a", "z", "left_arm", "p1", "a_", "a__b", "mov", "moves", "one", "offs", "iff", "ab0123456789_"):
            self.check(word, True)


class TestReadCount(unittest.TestCase):
    def test_counts(self):
        for number in range(1, 100):
            self.assertEqual(read_count(str(number)), number)

    def test_what_is_no_count(self):
        for word in (
            "", "0", "00", "01", "09", "001", "100", "101", "999", "1000", "010", "-1", "+1", "-", "1.", ".5", "1 ",
            " 1", "1_", "_1", "1a", "a1", "a", "ab", "1_0", "x", "{", "}", "on", "\n1", "1\n", "2#", "\xb2", "1\xb2",
            "\u0661", "\uff11",
        ):
            with self.subTest(word):
                self.assertIsNone(read_count(word))


if __name__ == "__main__":
    unittest.main()
