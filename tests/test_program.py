"""Point [55]: programs, and when they are equal."""
import unittest

from armwarrant.programs.program import Program


def routines():
    return [("a", [("move", "p")]), ("b", [("repeat", 2, [("call", "a"), ("if", "i", [("release",)], [])])])]


def body():
    return [("set", "s", True), ("if", "i", [("take", "x")], [("repeat", 3, [("wait", "s", False)])])]


class TestProgram(unittest.TestCase):
    def test_fields(self):
        program = Program(routines(), body())
        self.assertEqual(vars(program), dict(routines=routines(), body=body()))
        self.assertIs(type(program.routines), list)
        self.assertIs(type(program.body), list)
        self.assertTrue(all(type(pair) is tuple for pair in program.routines))
        self.assertTrue(all(type(statement) is tuple for statement in program.body))

    def test_nothing(self):
        program = Program([], [])
        self.assertEqual((program.routines, program.body), ([], []))

    def test_later_changes_of_the_lists_have_no_effect(self):
        rows, statements = routines(), body()
        program = Program(rows, statements)
        rows[0][1].append(("release",))
        rows[1][1][0][2][1][2].append(("release",))
        rows[1][1][0][2].clear()
        rows.pop()
        statements[1][2].clear()
        statements[1][3][0][2].append(("release",))
        statements[1][3].append(("release",))
        statements.append(("release",))
        self.assertEqual((program.routines, program.body), (routines(), body()))

    def test_the_lists_that_are_passed_stay_as_they_are(self):
        rows, statements = routines(), body()
        program = Program(rows, statements)
        program.body.clear()
        program.routines[0][1].clear()
        self.assertEqual((rows, statements), (routines(), body()))

    def test_a_list_that_is_passed_twice(self):
        same = [("release",)]
        program = Program([("a", same), ("b", same)], same)
        program.routines[0][1].clear()
        self.assertEqual(program.routines, [("a", []), ("b", [("release",)])])
        self.assertEqual(program.body, [("release",)])

    def test_routine(self):
        program = Program(routines(), body())
        self.assertEqual(program.routine("a"), [("move", "p")])
        self.assertEqual(program.routine("b"), routines()[1][1])
        self.assertEqual(Program([("empty", [])], []).routine("empty"), [])
        for name in ("c", "", "p", "move", "A"):
            self.assertIsNone(program.routine(name))
        self.assertIsNone(Program([], body()).routine("a"))

    def test_equal_programs(self):
        self.assertTrue(Program(routines(), body()) == Program(routines(), body()))
        self.assertFalse(Program(routines(), body()) != Program(routines(), body()))
        self.assertTrue(Program([], []) == Program([], []))
        program = Program(routines(), body())
        self.assertTrue(program == program)

    def test_programs_that_are_not_equal(self):
        program = Program(routines(), body())
        others = [
            Program(routines()[::-1], body()), Program(routines()[:1], body()), Program(routines(), body()[:1]),
            Program(routines(), body()[::-1]), Program([], body()), Program(routines(), []), Program([], []),
            Program([("c", pair[1]) for pair in routines()], body()),
            Program(routines(), [("set", "s", False), body()[1]]),
            Program(routines(), [("set", "s", True), ("if", "i", body()[1][3], body()[1][2])]),
        ]
        for other in others:
            self.assertFalse(program == other)
            self.assertTrue(program != other)

    def test_other_values(self):
        program = Program([], [])
        for value in (None, 0, "", [], (), {}, ([], []), [[], []], "program", object()):
            self.assertFalse(program == value)
            self.assertFalse(value == program)
            self.assertTrue(program != value)
        self.assertNotIn(program, [None, 1, ([], [])])
        self.assertIs(program == 1, False)


if __name__ == "__main__":
    unittest.main()
