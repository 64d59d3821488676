"""Points [65] and [66]: what programs and flows do."""
import itertools
import random
import unittest

from random_programs import random_program_with_flow

from armwarrant.programs.deeds import deeds_of_flow, deeds_of_program
from armwarrant.programs.flows import flow_of
from armwarrant.programs.reading import read_program

P, Q, R = ("move", "p"), ("move", "q"), ("move", "r")


class DeedsCase(unittest.TestCase):
    def check(self, text, readings, deeds, taken):
        program = read_program(text)
        for found in (deeds_of_program(program, readings), deeds_of_flow(flow_of(program), readings)):
            with self.subTest(text=text, readings=readings):
                self.assertEqual(found, (deeds, taken))
                self.assertIs(type(found), tuple)
                self.assertIs(type(found[0]), list)


class TestDeeds(DeedsCase):
    def test_each_deed(self):
        self.check("", [], [], 0)
        self.check("move p", [], [P], 0)
        self.check("set s on set s off", [], [("set", "s", True), ("set", "s", False)], 0)
        # A wait is a deed, whether its signal is so or not.
        self.check("wait s on wait s off set s on wait s off", [],
                   [("wait", "s", True), ("wait", "s", False), ("set", "s", True), ("wait", "s", False)], 0)
        self.check("take x release", [], [("hold", "x"), ("hold", None)], 0)

    def test_if(self):
        for text, on, off in (
            ("if i { move p } else { move q } move r", [P, R], [Q, R]), ("if i { move p } move r", [P, R], [R]),
            ("if i { } else { move q } move r", [R], [Q, R]), ("if i { } move r", [R], [R]),
        ):
            self.check(text, [True], on, 1)
            self.check(text, [False], off, 1)

    def test_too_few_readings_and_too_many(self):
        text = "if i { move p } else { move q } if i { move p } else { move q }"
        self.check(text, [], [Q, Q], 2)
        self.check(text, [True], [P, Q], 2)
        self.check(text, [False, True], [Q, P], 2)
        self.check(text, [True, True, True, False], [P, P], 2)
        self.check("move p", [True, False], [P], 0)

    def test_readings_are_taken_only_where_one_comes(self):
        text = "if i { if j { move p } } else { move q } if k { move r }"
        self.check(text, [True, True, True], [P, R], 3)
        self.check(text, [True, False, True], [R], 3)
        self.check(text, [False, True, True], [Q, R], 2)

    def test_repeat_reads_anew(self):
        text = "repeat 3 { if i { move p } else { move q } move r }"
        self.check(text, [True, False, True], [P, R, Q, R, P, R], 3)
        self.check("repeat 2 { repeat 2 { if i { move p } } release }", [True, False, False, True, True],
                   [P, ("hold", None), P, ("hold", None)], 4)
        self.check("repeat 99 { repeat 99 { } }", [True], [], 0)

    def test_calls(self):
        self.check("routine a { if i { move p } else { call b } } routine b { move q } call a call a move r",
                   [False, True], [Q, P, R], 2)
        self.check("routine a { move p }", [], [], 0)

    def test_nothing_is_changed(self):
        program = read_program("routine a { move p } repeat 2 { if i { call a } else { release } }")
        flow, readings = flow_of(program), [True]
        deeds_of_program(program, readings)[0].clear()
        deeds_of_flow(flow, readings)[0].clear()
        self.assertEqual(program, read_program("routine a { move p } repeat 2 { if i { call a } else { release } }"))
        self.assertEqual((flow, readings), (flow_of(program), [True]))


class TestEqualDeeds(unittest.TestCase):
    def check(self, program, readings):
        deeds = deeds_of_program(program, readings)
        self.assertEqual(deeds, deeds_of_flow(flow_of(program), readings))
        return deeds[1]

    def test_all_readings_of_a_program(self):
        program = read_program(
            "routine a { if i { move p if j { take x } else { set s on } } else { release } } "
            "if k { call a } else { repeat 2 { call a wait s on } } if k { } else { if i { move q } }"
        )
        taken = {
            self.check(program, list(readings))
            for many in range(8) for readings in itertools.product((True, False), repeat=many)
        }
        self.assertEqual(taken, {3, 4, 5, 6, 7})

    def test_random_programs(self):
        chance = random.Random(66)
        most = 0
        for _ in range(500):
            program = random_program_with_flow(chance)
            for _ in range(6):
                readings = [chance.random() < 0.6 for _ in range(chance.choice((0, 1, 3, 8, 30)))]
                most = max(most, self.check(program, readings))
        self.assertGreater(most, 5)


if __name__ == "__main__":
    unittest.main()
