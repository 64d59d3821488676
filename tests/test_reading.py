"""Points [55] to [58]: reading the texts of programs, and what is told of texts that are none."""
import random
import unittest

from armwarrant.errors import ArmwarrantError, InvalidProgram
from armwarrant.programs.program import Program
from armwarrant.programs.reading import read_program

KEYWORDS = "move set wait take release if else repeat call routine on off".split()
STATEMENT, STATEMENT_OR_ROUTINE, STATEMENT_OR_BRACE = "a statement", "a statement or a routine", "a statement or }"
NO_NAMES = ["{", "}", "9", "9a", "_a", "A", "aB", "a-b", "a.b", "b" * 21, "move2x!", '"a"', "\\"] + KEYWORDS
BAD_STATEMENTS = ["{", "else", "on", "off", "x", "9", "MOVE", "moves", "b" * 21, "-"]


class ReadingCase(unittest.TestCase):
    def check(self, text, body, routines=()):
        with self.subTest(text):
            program = read_program(text)
            self.assertIsInstance(program, Program)
            self.assertEqual((program.routines, program.body), (list(routines), body))

    def check_wrong(self, text, line, column, expected):
        with self.subTest(text):
            with self.assertRaises(InvalidProgram) as caught:
                read_program(text)
            error = caught.exception
            self.assertEqual((error.line, error.column, error.expected), (line, column, expected))
            self.assertIsInstance(error, ArmwarrantError)

    def check_word(self, before, word, expected):
        """Check that the word is the first wrong one behind a text, whatever follows it."""
        for text in (f"{before}{word}", f"{before}{word} x {{ move }} #"):
            self.check_wrong(text, before.count("\n") + 1, len(before) - before.rfind("\n"), expected)

    def check_end(self, text, expected):
        """Check that the text ends too early, and that its last word is named."""
        words = text.split()
        rest = text[:text.rindex(words[-1])]
        line, column = rest.count("\n") + 1, len(rest) - rest.rfind("\n")
        for tail in ("", "  ", "\n\n", " # }\n", "\n\t\n# {"):
            self.check_wrong(text + tail, line, column, expected + " behind this word")


class TestStatements(ReadingCase):
    def test_each_statement(self):
        for text, statement in (
            ("move p", ("move", "p")),
            ("set s on", ("set", "s", True)),
            ("set s off", ("set", "s", False)),
            ("wait s on", ("wait", "s", True)),
            ("wait s off", ("wait", "s", False)),
            ("take x", ("take", "x")),
            ("release", ("release",)),
            ("call r", ("call", "r")),
            ("if i { }", ("if", "i", [], [])),
            ("if i { move p }", ("if", "i", [("move", "p")], [])),
            ("if i { } else { }", ("if", "i", [], [])),
            ("if i { move p } else { take x release }", ("if", "i", [("move", "p")], [("take", "x"), ("release",)])),
            ("if i { } else { release }", ("if", "i", [], [("release",)])),
            ("repeat 1 { }", ("repeat", 1, [])),
            ("repeat 99 { move p move q }", ("repeat", 99, [("move", "p"), ("move", "q")])),
        ):
            self.check(text, [statement])
            self.check(f"\n\t{text}#\n", [statement])
            self.check(text.replace(" ", "\n"), [statement])
            self.check(f"{text} {text}\n{text}", [statement] * 3)
            self.check(f"repeat 7 {{ {text} }}", [("repeat", 7, [statement])])
            self.check(f"routine r {{{text}}} {text}", [statement], [("r", [statement])])

    def test_the_switch_is_true_or_false(self):
        self.assertIs(read_program("set s on").body[0][2], True)
        self.assertIs(read_program("wait s off").body[0][2], False)

    def test_no_statements(self):
        for text in ("", " \n\t", "# move p", "#\n#"):
            self.check(text, [])

    def test_names(self):
        for name in ("a", "z9_", "on_", "moves", "b" * 20, "else1"):
            self.check(f"move {name} call {name}", [("move", name), ("call", name)])
        self.check("routine p { } move p set p on take p if p { } call p",
                   [("move", "p"), ("set", "p", True), ("take", "p"), ("if", "p", [], []), ("call", "p")], [("p", [])])

    def test_braces_without_separators(self):
        self.check("if i{move p}else{repeat 2{release}}", [
            ("if", "i", [("move", "p")], [("repeat", 2, [("release",)])]),
        ])

    def test_an_if_in_an_if(self):
        inner = ("if", "j", [("move", "p")], [("move", "q")])
        self.check("if i { if j { move p } else { move q } }", [("if", "i", [inner], [])])
        self.check("if i { if j { move p } else { move q } } else { }", [("if", "i", [inner], [])])
        self.check("if i { if j { move p } } else { move q }",
                   [("if", "i", [("if", "j", [("move", "p")], [])], [("move", "q")])])
        self.check("if i { } else { if j { } else { move q } }", [("if", "i", [], [("if", "j", [], [("move", "q")])])])
        self.check("if i { } if j { } else { move q }", [("if", "i", [], []), ("if", "j", [], [("move", "q")])])

    def test_routines(self):
        self.check("routine a { } routine b { move p call a } call b", [("call", "b")],
                   [("a", []), ("b", [("move", "p"), ("call", "a")])])
        self.check("routine a { }", [], [("a", [])])
        # A routine that is not there may be called in a text.
        self.check("call nowhere", [("call", "nowhere")])
        self.check("routine a { call a }", [], [("a", [("call", "a")])])

    def test_up_to_12_routines(self):
        for many in (1, 11, 12):
            text = " ".join(f"routine r{k} {{ }}" for k in range(many))
            self.check(text, [], [(f"r{k}", []) for k in range(many)])
            self.check(text + " move p", [("move", "p")], [(f"r{k}", []) for k in range(many)])

    def test_up_to_8_braces(self):
        for word, make in (
            ("repeat 2", lambda inner: ("repeat", 2, inner)), ("if i", lambda inner: ("if", "i", inner, [])),
        ):
            text, body = "move p", [("move", "p")]
            for depth in range(1, 9):
                text, body = f"{word} {{ {text} }}", [make(body)]
                self.check(text, body)
                if depth < 8:
                    self.check(f"routine r {{ {text} }}", [], [("r", body)])
        deep = "move p"
        for _ in range(8):
            deep = f"if i {{ }} else {{ {deep} }}"
        self.assertEqual(read_program(deep).body[0][2], [])

    def test_a_text_may_be_long(self):
        self.check("move p\n" * 1000, [("move", "p")] * 1000)

    def test_lists_are_lists_and_statements_are_tuples(self):
        program = read_program("routine r { release } if i { release } else { }")
        self.assertIs(type(program.routines), list)
        self.assertIs(type(program.routines[0]), tuple)
        self.assertEqual([type(member) for member in program.body[0]], [str, str, list, list])


class TestWrongWords(ReadingCase):
    def test_where_a_routine_may_begin(self):
        for word in BAD_STATEMENTS + ["}"]:
            self.check_word("", word, STATEMENT_OR_ROUTINE)
            self.check_word("\n\t# c\n  ", word, STATEMENT_OR_ROUTINE)
            self.check_word("routine a { move p }\n ", word, STATEMENT_OR_ROUTINE)
            self.check_word("".join(f"routine r{k} {{ }} " for k in range(11)), word, STATEMENT_OR_ROUTINE)

    def test_behind_12_routines(self):
        text = "".join(f"routine r{k} {{ }}\n" for k in range(12))
        for word in BAD_STATEMENTS + ["}", "routine"]:
            self.check_word(text, word, STATEMENT)

    def test_behind_a_statement(self):
        for before in ("move p ", "routine a { } release\n", "if i { } else { } ", "repeat 2 { move p }\n\n "):
            for word in BAD_STATEMENTS + ["}", "routine"]:
                self.check_word(before, word, STATEMENT)
        for word in BAD_STATEMENTS + ["}", "routine"]:
            if word != "else":
                self.check_word("if i { } ", word, STATEMENT)

    def test_in_braces(self):
        for before in (
            "routine a { ", "routine a { move p ", "repeat 2 { ", "if i {\n", "if i { } else {\n  ", "if i { release ",
            "routine a { repeat 2 { } ", "repeat 2 { if i { } else { } ", "repeat 2 { repeat 3 { ",
        ):
            for word in BAD_STATEMENTS + ["routine"]:
                self.check_word(before, word, STATEMENT_OR_BRACE)

    def test_where_else_may_not_stand(self):
        for before in ("repeat 2 { } ", "if i { } else { } ", "if i { } move p ", "move p ", "release "):
            self.check_word(before, "else", STATEMENT)
            self.check_word(f"repeat 3 {{ {before}", "else", STATEMENT_OR_BRACE)
            self.check_word(f"routine a {{ {before}", "else", STATEMENT_OR_BRACE)
        self.check_word("routine a { } ", "else", STATEMENT_OR_ROUTINE)
        self.check_word("routine a { if i { } } ", "else", STATEMENT_OR_ROUTINE)
        self.check_word("if i { ", "else", STATEMENT_OR_BRACE)
        self.check_word("if i { if j { } else { } ", "else", STATEMENT_OR_BRACE)
        self.check_word("if i { if j { } } else { } ", "else", STATEMENT)

    def test_behind_an_if_it_is_told_as_if_no_else_could_stand(self):
        self.check_word("if i { } ", "x", STATEMENT)
        self.check_word("repeat 2 { if i { } ", "x", STATEMENT_OR_BRACE)

    def test_braces_that_are_8_deep(self):
        for before in ("repeat 2 { " * 8, "if i { " * 8, "routine a { " + "if i { " * 7, "if i { } else { " * 8):
            for word in ("if", "repeat"):
                self.check_word(before, word, "a statement without braces")
                self.check_word(before + "move p\n", word, "a statement without braces")
            for word in BAD_STATEMENTS + ["routine"]:
                self.check_word(before, word, STATEMENT_OR_BRACE)
        # One brace is closed again.
        text = "if i { " * 8 + "} if i { "
        self.check_word(text, "if", "a statement without braces")
        body = [("if", "i", [], []), ("if", "j", [], [])]
        for _ in range(7):
            body = [("if", "i", body, [])]
        self.check("if i { " * 8 + "} if j { } " + "} " * 7, body)

    def test_names(self):
        befores = ("move ", "set ", "wait\n", "take ", "if ", "call ", "routine ", "repeat 2 { move ", "release if ")
        for before in befores:
            for word in NO_NAMES:
                self.check_word(before, word, "a name")

    def test_names_of_routines(self):
        for before in ("routine a { } routine ", "routine b { } routine a { }\nroutine "):
            self.check_word(before, "a", "a name of its own")
            self.check_word(before, "move", "a name")
            self.check_word(before, "{", "a name")
        self.check("routine a { } routine ab { }", [], [("a", []), ("ab", [])])
        self.check_word("".join(f"routine r{k} {{ }} " for k in range(11)) + "routine ", "r0", "a name of its own")

    def test_switches(self):
        for before in ("set s ", "wait s\n\n ", "repeat 2 { set s "):
            for word in ("x", "{", "}", "move", "ON", "of", "1", "true"):
                self.check_word(before, word, "on or off")

    def test_counts(self):
        for before in ("repeat ", "if i { repeat "):
            for word in ("0", "00", "01", "100", "-1", "x", "{", "}", "on", "1a", "1.5", "repeat"):
                self.check_word(before, word, "a count")

    def test_opening_braces(self):
        for before in ("if i ", "routine a ", "repeat 2 ", "if i { } else ", "repeat 2 { if i { } else "):
            for word in ("}", "x", "move", "2", "else", "if", "on"):
                self.check_word(before, word, "{")

    def test_the_first_wrong_word_counts(self):
        self.check_wrong("move 1 set 2", 1, 6, "a name")
        self.check_wrong("move a\nset b\n  maybe }", 3, 3, "on or off")
        self.check_wrong("repeat 100 { if }", 1, 8, "a count")
        self.check_wrong("routine a { } routine a { foo }", 1, 23, "a name of its own")

    def test_columns(self):
        self.check_wrong("\tmove\t9", 1, 7, "a name")
        self.check_wrong("if i{}}", 1, 7, STATEMENT)
        self.check_wrong("if i{x}", 1, 6, STATEMENT_OR_BRACE)
        self.check_wrong("# a\n\n }", 3, 2, STATEMENT_OR_ROUTINE)


class TestEnds(ReadingCase):
    def test_a_name_is_missing(self):
        for text in ("move", "set", "\n wait", "take", "if", "call", "routine", "release move", "repeat 2 { move",
                     "routine a { } routine", "move p\n\n  take"):
            self.check_end(text, "a name")

    def test_a_switch_is_missing(self):
        for text in ("set s", "wait s", "move p wait\n s", "if i { set on_"):
            self.check_end(text, "on or off")

    def test_a_count_is_missing(self):
        for text in ("repeat", "move p\nrepeat", "if i { repeat"):
            self.check_end(text, "a count")

    def test_an_opening_brace_is_missing(self):
        for text in ("if i", "repeat 2", "routine a", "if i { } else", "repeat\n 3", "repeat 2 { if i { } else"):
            self.check_end(text, "{")

    def test_a_closing_brace_is_missing(self):
        for text in (
            "routine a {", "if i {", "repeat 2 {", "routine a { move p", "repeat 2 { if i { }", "if i { } else {",
            "if i { } else { release", "repeat 2 { repeat 3 { set s\n on", "routine a { if i { } else { }",
        ):
            self.check_end(text, STATEMENT_OR_BRACE)

    def test_with_8_open_braces(self):
        for text in ("repeat 2 { " * 8, "if i { " * 8 + "move p", "routine a { " + "if i { " * 7):
            self.check_end(text.strip(), STATEMENT_OR_BRACE)

    def test_texts_that_are_whole(self):
        for text in ("move p", "routine a { }", "if i { }", "if i { } else { }", "release", "repeat 2 { }"):
            read_program(text)


class TestAllTexts(ReadingCase):
    WORDS = ("move", "set", "wait", "take", "release", "if", "else", "repeat", "call", "routine", "on", "off", "{", "}",
             "p", "q", "2", "zz!", "{", "}", "p", "else")

    def test_the_first_wrong_word_is_the_first_with_which_no_program_begins(self):
        # The words before a wrong one begin a program: they can be ended so that one can read it.
        chance = random.Random(57)
        told = {}
        for _ in range(4000):
            words = [chance.choice(self.WORDS) for _ in range(chance.randint(1, 9))]
            try:
                read_program(" ".join(words))
            except InvalidProgram as error:
                told[error.expected] = told.get(error.expected, 0) + 1
                if error.expected.endswith(" behind this word"):
                    self.assertEqual(error.column, len(" ".join(words)) - len(words[-1]) + 1)
                    good = words
                else:
                    good = " ".join(words)[:error.column - 1].split()
                self.assertIsInstance(read_program(self.ended(good)), Program)
        self.assertGreater(len(told), 10)

    def ended(self, words):
        """Return the text of the words, with what is expected behind them as long as something is."""
        text = " ".join(words)
        for _ in range(40):
            try:
                read_program(text)
                return text
            except InvalidProgram as error:
                self.assertTrue(error.expected.endswith(" behind this word"), (text, error.expected))
                expected = error.expected[:-len(" behind this word")]
                text += {"a name": " xyz", "on or off": " on", "a count": " 5", "{": " {"}.get(expected, " }")
        return text


if __name__ == "__main__":
    unittest.main()
