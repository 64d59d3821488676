"""Points [59] and [60]: how programs are written."""
import random
import unittest

from random_programs import random_program

from armwarrant.programs.program import Program
from armwarrant.programs.reading import read_program
from armwarrant.programs.writing import write_program

MOVE, RELEASE = ("move", "p"), ("release",)


def rows(*lines):
    return "".join(line + "\n" for line in lines)


class WritingCase(unittest.TestCase):
    def check(self, body, text, routines=()):
        program = Program(list(routines), body)
        with self.subTest(text):
            self.assertEqual(write_program(program), text)
            self.check_read(program)

    def check_read(self, program):
        """Check that what is written is read as an equal program, and then written so again."""
        text = write_program(program)
        again = read_program(text)
        self.assertEqual(again, program)
        self.assertEqual(write_program(again), text)


class TestStatements(WritingCase):
    def test_nothing(self):
        self.check([], "")

    def test_each_statement_without_lists(self):
        for statement, line in (
            (("move", "p"), "move p"),
            (("set", "s", True), "set s on"),
            (("set", "s", False), "set s off"),
            (("wait", "s", True), "wait s on"),
            (("wait", "s", False), "wait s off"),
            (("take", "x"), "take x"),
            (("release",), "release"),
            (("call", "r"), "call r"),
        ):
            self.check([statement], line + "\n")
            self.check([statement, statement], rows(line, line))
            self.check([("repeat", 2, [statement])], rows("repeat 2 {", "  " + line, "}"))
            self.check([], rows("routine r {", "  " + line, "}"), [("r", [statement])])

    def test_repeat(self):
        self.check([("repeat", 1, [MOVE, RELEASE])], rows("repeat 1 {", "  move p", "  release", "}"))
        self.check([("repeat", 99, [])], rows("repeat 99 {", "}"))
        self.check(
            [("repeat", 3, [("repeat", 4, [MOVE]), RELEASE]), MOVE],
            rows("repeat 3 {", "  repeat 4 {", "    move p", "  }", "  release", "}", "move p"),
        )

    def test_if(self):
        self.check([("if", "i", [MOVE], [])], rows("if i {", "  move p", "}"))
        self.check([("if", "i", [], [])], rows("if i {", "}"))
        self.check([("if", "i", [MOVE], [RELEASE])], rows("if i {", "  move p", "} else {", "  release", "}"))
        self.check([("if", "i", [], [RELEASE])], rows("if i {", "} else {", "  release", "}"))

    def test_if_in_if(self):
        inner = ("if", "j", [MOVE], [RELEASE])
        lines = ["  if j {", "    move p", "  } else {", "    release", "  }"]
        self.check([("if", "i", [inner], [])], rows("if i {", *lines, "}"))
        self.check([("if", "i", [], [inner])], rows("if i {", "} else {", *lines, "}"))
        self.check([("if", "i", [inner], [inner])], rows("if i {", *lines, "} else {", *lines, "}"))

    def test_8_braces(self):
        for make, line in (
            (lambda inner: ("repeat", 2, inner), "repeat 2 {"), (lambda inner: ("if", "i", inner, []), "if i {"),
        ):
            body, lines = [MOVE], ["move p"]
            for _ in range(8):
                body, lines = [make(body)], [line] + ["  " + row for row in lines] + ["}"]
                self.check(body, rows(*lines))
            self.assertEqual(lines[8], " " * 16 + "move p")

    def test_routines(self):
        self.check([], rows("routine a {", "}"), [("a", [])])
        self.check(
            [("call", "b"), MOVE],
            rows("routine b {", "  release", "  if i {", "    move p", "  }", "}", "routine a {", "}",
                 "call b", "move p"),
            [("b", [RELEASE, ("if", "i", [MOVE], [])]), ("a", [])],
        )
        names = [f"r{k}" for k in range(12)]
        self.check([], "".join(rows(f"routine {name} {{", "  move p", "}") for name in names),
                   [(name, [MOVE]) for name in names])

    def test_braces_of_a_routine_count(self):
        body = [MOVE]
        for _ in range(7):
            body = [("repeat", 2, body)]
        text = write_program(Program([("r", body)], []))
        self.assertIn("\n" + " " * 16 + "move p\n", text)
        self.check_read(Program([("r", body)], []))


class TestReadAgain(WritingCase):
    def test_long_texts(self):
        program = Program([("r", [MOVE] * 500)], [("if", "i", [RELEASE] * 400, [("take", "x" * 20)] * 300)])
        self.assertGreater(len(write_program(program)), 2000)
        self.check_read(program)

    def test_a_long_text_of_a_short_one(self):
        text = "repeat 9{repeat 9{repeat 9{repeat 9{repeat 9{repeat 9{repeat 9{" + "release " * 230 + "}}}}}}}"
        program = read_program(text)
        self.assertLessEqual(len(text), 2000)
        self.assertGreater(len(write_program(program)), 2000)
        self.check_read(program)

    def test_equal_programs_are_written_alike(self):
        texts = [
            "routine a{move p}if i{release}else{}repeat 2{}",
                "\n# x\nroutine a { move p }\tif i { release }repeat 2 { }",
        ]
        first, second = (read_program(text) for text in texts)
        self.assertEqual(first, second)
        self.assertEqual(write_program(first), write_program(second))
        self.assertEqual(
            write_program(first), rows("routine a {", "  move p", "}", "if i {", "  release", "}", "repeat 2 {", "}"),
        )

    def test_random_programs(self):
        chance = random.Random(59)
        texts = {}
        for _ in range(600):
            program = random_program(chance)
            self.check_read(program)
            text = write_program(program)
            self.assertTrue(text == "" or text.endswith("\n"))
            self.assertNotIn("\n\n", text)
            # Programs that are not equal are not written alike.
            self.assertEqual(texts.setdefault(text, program), program)

    def test_the_program_stays_as_it_is(self):
        program = Program([("a", [MOVE])], [("if", "i", [MOVE], [RELEASE])])
        write_program(program)
        self.assertEqual(program, Program([("a", [MOVE])], [("if", "i", [MOVE], [RELEASE])]))


if __name__ == "__main__":
    unittest.main()
