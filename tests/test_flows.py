"""Points [61] to [64]: the flows of programs, and the programs that have none."""
import random
import time
import unittest

from random_programs import random_program

from armwarrant.errors import ArmwarrantError, FlowTooLong, MissingRoutine, RecursiveRoutine
from armwarrant.programs.flows import flow_of, landing, parts_of, points_of, signals_of
from armwarrant.programs.program import Program
from armwarrant.programs.reading import read_program

P, Q, R = ("move", "p"), ("move", "q"), ("move", "r")


def flow_of_text(text):
    return flow_of(read_program(text))


class FlowCase(unittest.TestCase):
    def check(self, text, flow):
        with self.subTest(text):
            found = flow_of_text(text)
            self.assertEqual(found, flow)
            self.assertIs(type(found), list)
            self.assertTrue(all(type(step) is tuple for step in found))


class TestSteps(FlowCase):
    def test_nothing(self):
        self.check("", [])
        self.check("routine a { move p }", [])

    def test_each_statement_without_lists(self):
        for text, step in (
            ("move p", P),
            ("set s on", ("set", "s", True)),
            ("set s off", ("set", "s", False)),
            ("wait s on", ("wait", "s", True)),
            ("wait s off", ("wait", "s", False)),
            ("take x", ("hold", "x")),
            ("release", ("hold", None)),
        ):
            self.check(text, [step])
            self.check(f"{text} move q {text}", [step, Q, step])

    def test_if_without_a_second_list(self):
        self.check("if i { move p move q } move r", [("if", "i", 3), P, Q, R])
        self.check("if i { move p } else { }", [("if", "i", 2), P])
        self.check("move r if i { }", [R, ("if", "i", 2)])

    def test_if_with_a_second_list(self):
        self.check("if i { move p } else { move q } move r", [("if", "i", 3), P, ("jump", 4), Q, R])
        self.check("move r if i { } else { move p move q }", [R, ("if", "i", 3), ("jump", 5), P, Q])

    def test_a_second_list_that_becomes_no_steps(self):
        self.check("if i { move p } else { repeat 2 { } }", [("if", "i", 3), P, ("jump", 3)])
        self.check("routine a { } if i { } else { call a }", [("if", "i", 2), ("jump", 2)])

    def test_if_in_if(self):
        self.check("if i { if j { move p } else { move q } } move r", [
            ("if", "i", 5), ("if", "j", 4), P, ("jump", 5), Q, R,
        ])
        self.check("if i { move p } else { if j { move q } else { move r } }", [
            ("if", "i", 3), P, ("jump", 7), ("if", "j", 6), Q, ("jump", 7), R,
        ])
        self.check("if i { if j { move p } else { move q } } else { move r }", [
            ("if", "i", 6), ("if", "j", 4), P, ("jump", 5), Q, ("jump", 7), R,
        ])
        self.check("if i { if j { } }", [("if", "i", 2), ("if", "j", 2)])

    def test_repeat(self):
        self.check("repeat 1 { move p }", [P])
        self.check("repeat 3 { move p move q }", [P, Q] * 3)
        self.check("repeat 99 { }", [])
        self.check("repeat 2 { repeat 3 { move p } move q }", [P, P, P, Q] * 2)
        self.check("repeat 99 { move p }", [P] * 99)
        self.check("move r repeat 2 { if i { move p } else { move q } }", [
            R, ("if", "i", 4), P, ("jump", 5), Q, ("if", "i", 8), P, ("jump", 9), Q,
        ])

    def test_calls(self):
        self.check("routine a { move p if i { move q } } move r call a call a", [
            R, P, ("if", "i", 4), Q, P, ("if", "i", 7), Q,
        ])
        self.check("routine a { call b move p } routine b { move q } call a call b", [Q, P, Q])
        self.check("routine a { } call a", [])
        self.check("routine b { move q } routine a { call b } repeat 2 { call a } if i { call a } else { call b }", [
            Q, Q, ("if", "i", 5), Q, ("jump", 6), Q,
        ])

    def test_jumps_lead_forward(self):
        chance = random.Random(61)
        jumps = 0
        for _ in range(800):
            try:
                flow = flow_of(random_program(chance))
            except FlowTooLong:
                continue
            for at, step in enumerate(flow):
                if step[0] in ("if", "jump"):
                    self.assertTrue(at < step[-1] <= len(flow))
                    jumps += 1
        self.assertGreater(jumps, 500)

    def test_the_program_stays_as_it_is(self):
        program = read_program("routine a { move p } repeat 2 { if i { call a } else { move q } }")
        flow_of(program).clear()
        flow = flow_of(program)
        flow.pop()
        self.assertEqual(program, read_program("routine a { move p } repeat 2 { if i { call a } else { move q } }"))
        self.assertEqual(len(flow_of(program)), len(flow) + 1)


class TestNoFlow(unittest.TestCase):
    def check(self, text, error, name):
        program = read_program(text) if isinstance(text, str) else text
        with self.subTest(text):
            with self.assertRaises(error) as caught:
                flow_of(program)
            self.assertIsInstance(caught.exception, ArmwarrantError)
            self.assertEqual(caught.exception.name, name)

    def check_missing(self, text, name):
        self.check(text, MissingRoutine, name)

    def check_recursive(self, text, name):
        self.check(text, RecursiveRoutine, name)

    def test_a_routine_that_is_missing(self):
        self.check_missing("call a", "a")
        self.check_missing("routine b { } call b call a", "a")
        self.check_missing("routine b { call a } call b", "a")
        self.check_missing("call c call a", "c")

    def test_a_routine_that_calls_itself(self):
        self.check_recursive("routine a { call a } call a", "a")
        self.check_recursive("routine a { move p repeat 2 { call a } } call a", "a")

    def test_routines_that_call_each_other(self):
        text = "routine a { call b } routine b { call a }"
        self.check_recursive(text + " call a", "a")
        self.check_recursive(text + " call b", "b")
        self.check_recursive("routine a { call b } routine b { call c } routine c { call b } call a", "b")

    def test_both_faults_in_either_order(self):
        self.check_missing("routine a { call a } call x call a", "x")
        self.check_recursive("routine a { call a } call a call x", "a")
        self.check_missing("routine a { call x call a } call a", "x")
        self.check_recursive("routine a { call a call x } call a", "a")
        # What stands in a called routine comes before what stands behind the call.
        self.check_missing("routine a { call b call a } routine b { call x } call a", "x")
        self.check_recursive("routine a { call b call x } routine b { call a } call a", "a")
        self.check_recursive("routine a { call b } routine b { call c call x } routine c { call b } call a", "b")

    def test_calls_in_lists(self):
        for text in (
            "if i { call x } else { call y }", "if i { } else { call x } call y", "repeat 3 { call x } call y",
            "if i { move p } else { repeat 1 { if j { } else { call x } } } call y", "if i { if j { call x } } call y",
        ):
            self.check_missing(text, "x")
        self.check_recursive("routine a { if i { move p } else { call a } } call a", "a")
        self.check_recursive("routine a { if i { call a } else { call x } } call a", "a")

    def test_routines_that_are_never_called(self):
        for text in ("routine a { call x } move p", "routine a { call a } move p",
                     "routine a { call b } routine b { call a } move p"):
            self.assertEqual(flow_of_text(text), [P])

    def test_a_routine_may_be_called_again_behind_its_end(self):
        self.assertEqual(flow_of_text("routine a { move p } routine b { call a call a } call b call a call b"), [P] * 5)

    def test_a_list_that_is_repeated_is_gone_through_once(self):
        begin = time.perf_counter()
        text = "routine a { call x } " + "repeat 99 { " * 8 + "call a" + " }" * 8
        self.check_missing(text, "x")
        self.assertLess(time.perf_counter() - begin, 1)

    def test_many_calls_of_routines_that_call_many(self):
        begin = time.perf_counter()
        routines = [(f"r{k}", [("call", f"r{k + 1}")] * 50) for k in range(11)]
        self.check_missing(Program(routines, [("call", "r0")]), "r11")
        self.check_recursive(Program(routines + [("r11", [("call", "r3")])], [("call", "r0")]), "r3")
        # All is gone through, to the fault at the very end.
        full = Program(routines + [("r11", [])], [("call", "r0"), ("call", "x")])
        self.check_missing(full, "x")
        self.assertLess(time.perf_counter() - begin, 1)


class TestTooLong(unittest.TestCase):
    def check_length(self, make, most):
        """Check that a text has a flow up to a number, and none from the next one on."""
        for number in (1, most - 1, most):
            flow_of_text(make(number))
        for number in (most + 1, most + 2):
            with self.subTest(make(number)):
                with self.assertRaises(FlowTooLong) as caught:
                    flow_of_text(make(number))
                self.assertIsInstance(caught.exception, ArmwarrantError)

    def test_statements_without_lists_count_1(self):
        for statement in ("move p", "set s on", "wait s off", "take x", "release"):
            self.check_length(lambda n: (statement + " ") * n, 200)
        self.assertEqual(flow_of_text("move p " * 200), [P] * 200)

    def test_if_counts_2_and_both_of_its_lists(self):
        self.check_length(lambda n: "if i { } " * n, 100)
        self.check_length(lambda n: "if i { move p } " * n, 66)
        self.check_length(lambda n: "if i { } else { move p } " * n, 66)
        self.check_length(lambda n: "if i { move p } else { move p move q } " * n, 40)
        self.check_length(lambda n: "if i { " + "move p " * n + "} else { " + "move q " * 100 + "}", 98)

    def test_repeat_counts_1_and_its_list_so_often(self):
        self.check_length(lambda n: "repeat 1 { } " * n, 200)
        self.check_length(lambda n: "repeat 99 { } " * n, 200)
        self.check_length(lambda n: f"repeat {n} {{ move p move q move r }}", 66)
        self.check_length(lambda n: f"repeat 2 {{ repeat {n} {{ release release }} }} move p", 49)
        self.check_length(lambda n: f"repeat {n} {{ repeat 99 {{ }} repeat 1 {{ }} move p }} ", 66)

    def test_call_counts_1_and_the_statements_of_the_routine(self):
        self.check_length(lambda n: "routine a { } " + "call a " * n, 200)
        self.check_length(lambda n: "routine a { move p move q } " + "call a " * n, 66)
        routines = "routine a { call b } routine b { move p } "
        self.check_length(lambda n: f"{routines} repeat {n} {{ call a }} release", 66)
        self.check_length(lambda n: "routine a { " + "move p " * n + "} call a", 199)

    def test_routines_that_are_never_called_do_not_count(self):
        self.assertEqual(flow_of_text("routine a { repeat 99 { move p move p move p } } move p"), [P])

    def test_other_errors_come_first(self):
        for tail, error in (("call x", MissingRoutine), ("call a", RecursiveRoutine)):
            with self.assertRaises(error):
                flow_of_text("routine a { call a } repeat 99 { repeat 99 { move p } } " + tail)
            with self.assertRaises(error):
                flow_of_text("routine a { call a } " + "move p " * 201 + tail)

    def test_great_counts_are_refused_fast(self):
        begin = time.perf_counter()
        for statement in (P, ("if", "i", [], [("set", "s", True)]), ("repeat", 99, []), ("call", "z")):
            body = [statement]
            for _ in range(7):
                body = [("repeat", 99, body)]
            programs = [Program([("z", [])], body)]
            # Each routine does all this, and calls the next one as often.
            routines = [("z", [])]
            for k in range(11):
                inner = [statement, ("call", f"r{k + 1}" if k < 10 else "z")]
                for _ in range(7):
                    inner = [("repeat", 99, inner + inner)]
                routines.append((f"r{k}", inner))
            programs.append(Program(routines, [("call", "r0")]))
            for program in programs:
                with self.assertRaises(FlowTooLong):
                    flow_of(program)
        self.assertLess(time.perf_counter() - begin, 2)

    def test_a_flow_has_at_most_as_many_steps_as_the_length(self):
        chance = random.Random(64)
        for _ in range(500):
            try:
                flow = flow_of(random_program(chance))
            except FlowTooLong:
                continue
            self.assertLessEqual(len(flow), 200)


class TestLanding(unittest.TestCase):
    def test_landing(self):
        flow = [P, ("jump", 3), Q, ("jump", 5), R, ("jump", 6), ("if", "i", 8), ("jump", 9), ("jump", 9)]
        self.assertEqual([landing(flow, at) for at in range(10)], [0, 6, 2, 6, 4, 6, 6, 9, 9, 9])

    def test_an_if_is_no_jump(self):
        self.assertEqual(landing([("if", "i", 2), P], 0), 0)

    def test_the_end(self):
        self.assertEqual(landing([], 0), 0)
        self.assertEqual(landing([P], 1), 1)
        self.assertEqual(landing([("jump", 1)], 0), 1)

    def test_a_flow_that_begins_with_a_jump(self):
        self.assertEqual(landing([("jump", 2), P, ("jump", 3), Q], 0), 3)


class TestNames(unittest.TestCase):
    def test_each_once_in_the_order_of_the_steps(self):
        flow = flow_of_text(
            "take y wait w on move q set t off if i { move p take x } else { move q set s on release } "
            "set t on move r take y move p wait v off"
        )
        self.assertEqual(points_of(flow), ["q", "p", "r"])
        self.assertEqual(signals_of(flow), ["t", "s"])
        self.assertEqual(parts_of(flow), ["y", "x"])

    def test_none(self):
        flow = [("wait", "s", True), ("hold", None), ("if", "i", 3), ("jump", 4)]
        for flow in (flow, []):
            for names in (points_of, signals_of, parts_of):
                self.assertEqual(names(flow), [])

    def test_equal_names_of_different_kinds(self):
        flow = flow_of_text("move a set a on wait a on take a if a { }")
        self.assertEqual((points_of(flow), signals_of(flow), parts_of(flow)), (["a"], ["a"], ["a"]))


if __name__ == "__main__":
    unittest.main()
