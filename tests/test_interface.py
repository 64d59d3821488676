"""The interface: each name is defined in its file, with its arguments; each method in its class itself."""
import importlib
import inspect
import unittest

from armwarrant.cell.cell import Cell
from armwarrant.order.plan import Plan
from armwarrant.runner.runner import Runner

FUNCTIONS = {
    "armwarrant.shapes.vectors": {
        "root_up": "(number)",
        "divide_up": "(number, divisor)",
        "dot": "(first, second)",
        "plus": "(first, second)",
        "minus": "(first, second)",
        "scaled": "(vector, factor)",
        "length_up": "(vector)",
        "greatest": "(vector)",
    },
    "armwarrant.shapes.gaps": {"place_gap": "(place, start, end)"},
    "armwarrant.shapes.lines": {"line_gap": "(first, second)"},
    "armwarrant.shapes.boxes": {"box_gap": "(line, low, high)"},
    "armwarrant.shapes.parting": {
        "direction": "(vector)",
        "parts_places": "(way, first, second, reach)",
        "corners": "(low, high)",
    },
    "armwarrant.arms.frames": {
        "true_place": "(arm, values, offsets, link, point)",
        "spot": "(arm, row, link, point)",
        "unknown": "(arm, halves, link, body)",
    },
    "armwarrant.arms.moves": {"lower": "(part)", "upper": "(part)"},
    "armwarrant.judge.judging": {"judge": "(matter, tree)", "is_meeting": "(matter, first, second)"},
    "armwarrant.judge.finding": {"find_verdict": "(matter, depth)"},
    "armwarrant.judge.margins": {
        "wider": "(matter, width)",
        "margin": "(matter, depth)",
        "depth_for": "(mover, gap)",
    },
    "armwarrant.times.rates": {"least_micros": "(arm, move, *, done=0)"},
    "armwarrant.times.moments": {
        "moment": "(arm, move, micros, *, done=0)",
        "stop_from": "(arm, move, micros, *, done=0)",
        "longest_stop": "(arm, move)",
        "each_alone": "(arm, move)",
    },
    "armwarrant.people.zones": {
        "extent": "(mover, direction, depth)",
        "zone": "(mover, directions, margin, depth)",
        "is_fenced": "(mover, sides, margin, depth)",
        "walked": "(speed, micros)",
    },
    "armwarrant.programs.words": {
        "split_words": "(text)",
        "is_name": "(word)",
        "read_count": "(word)",
    },
    "armwarrant.programs.reading": {"read_program": "(text)"},
    "armwarrant.programs.writing": {"write_program": "(program)"},
    "armwarrant.programs.flows": {
        "flow_of": "(program)",
        "landing": "(flow, index)",
        "points_of": "(flow)",
        "signals_of": "(flow)",
        "parts_of": "(flow)",
    },
    "armwarrant.programs.deeds": {
        "deeds_of_program": "(program, readings)",
        "deeds_of_flow": "(flow, readings)",
    },
    "armwarrant.order.safety": {"is_safe": "(plan, state)", "safe_arm": "(plan, state)"},
    "armwarrant.order.failure": {"what_holds_up": "(plan, state)", "how_it_fails": "(plan, state)"},
    "armwarrant.papers.certificates": {
        "write_certificate": "(matter, tree)",
        "write_meeting": "(matter, first, second)",
        "read_certificate": "(text)",
        "read_meeting": "(text)",
        "is_certificate": "(text)",
        "is_sure_meeting": "(text)",
    },
    "armwarrant.papers.cells": {"write_contents": "(contents)", "read_contents": "(text)"},
    "armwarrant.papers.warrants": {"write_warrant": "(cell)", "is_warrant": "(text)"},
}

SOLID = {
    "is_beyond": "(self, line, radius)",
    "is_within": "(self, line, radius)",
    "way_from": "(self, line)",
    "is_parted": "(self, way, line, radius)",
}

CLASSES = {
    "armwarrant.shapes.gaps": {
        "Gap": {
            "__init__": "(self, vector, scale)",
            "beyond": "(self, distance)",
            "within": "(self, distance)",
            "shorter": "(self, other)",
        },
    },
    "armwarrant.arms.joints": {
        "Joint": {
            "__init__": (
                "(self, turns, axis, offset, least, most, *, box=0, error=0, speed=1, accel=1, brake=1)"
            ),
        },
    },
    "armwarrant.arms.arm": {
        "Body": {"__init__": "(self, first, last, radius)"},
        "Capsule": {"__init__": "(self, link, body)"},
        "Arm": {"__init__": "(self, joints, capsules, *, beside=())", "fits": "(self, row)"},
    },
    "armwarrant.arms.moves": {
        "Move": {
            "__init__": "(self, arm, first, last)",
            "middle": "(self, part)",
            "halves": "(self, depth)",
            "slack": "(self)",
        },
    },
    "armwarrant.judge.solids": {
        "Block": {"__init__": "(self, first, last, radius)", **SOLID},
        "Box": {"__init__": "(self, low, high, radius)", **SOLID},
        "Wall": {"__init__": "(self, normal, bound)", **SOLID},
    },
    "armwarrant.judge.matters": {
        "Mover": {
            "__init__": "(self, arm, move, held=())",
            "bodies": "(self)",
            "lines": "(self, part)",
            "unknowns": "(self, halves)",
        },
        "Matter": {"__init__": "(self, kind, mover, other=None)", "pairs": "(self)"},
    },
    "armwarrant.judge.finding": {"Verdict": {"told": "(self)"}},
    "armwarrant.programs.program": {
        "Program": {
            "__init__": "(self, routines, body)",
            "routine": "(self, name)",
            "__eq__": "(self, other)",
        },
    },
    "armwarrant.order.plan": {
        "Plan": {
            "__init__": "(self, flows, starts, *, blocked=())",
            "is_clear": "(self, arm, place, other, other_place)",
            "first_state": "(self)",
            "step_of": "(self, state, arm)",
            "has_ended": "(self, state, arm)",
            "all_ended": "(self, state)",
            "rest_of": "(self, state, arm)",
            "wanted": "(self, state, arm)",
            "hindered_by": "(self, state, arm)",
            "can_step": "(self, state, arm)",
            "outcomes": "(self, state, arm)",
            "steps_left": "(self, state)",
        },
    },
    "armwarrant.cell.cell": {
        "Cell": {
            "__init__": "(self)",
            "edit": "(self, edits)",
            "undo": "(self)",
            "redo": "(self)",
            "verdict": "(self, question)",
            "flaws": "(self)",
            "problems": "(self)",
            "arms_in_order": "(self)",
            "is_runnable": "(self)",
            "make_plan": "(self)",
            "start_runner": "(self)",
        },
    },
    "armwarrant.runner.runner": {
        "Runner": {
            "__init__": "(self, plan)",
            "may": "(self, arm)",
            "begin": "(self, arm)",
            "end": "(self, arm)",
            "go_on": "(self, arm)",
            "halt": "(self, arm)",
            "free": "(self, arm)",
            "read_input": "(self, arm, *, on)",
            "place_of": "(self, arm)",
            "is_halted": "(self, arm)",
            "is_under_way": "(self, arm)",
            "state_ahead": "(self)",
            "fork": "(self)",
        },
    },
}

PROPERTIES = {
    "armwarrant.order.plan": {"Plan": ["width"]},
    "armwarrant.runner.runner": {"Runner": ["is_over"]},
}

# What is set on each object when it is created.
FIELDS = [
    (Plan([[]], ["p"]), "flows starts"), (Cell(), "contents questions"),
    (Cell().contents, "arms solids parts points tasks depth"), (Runner(Plan([[]], ["p"])), "plan state events"),
]


class TestInterface(unittest.TestCase):
    def test_functions(self):
        for module, functions in FUNCTIONS.items():
            for name, arguments in functions.items():
                with self.subTest(module=module, name=name):
                    found = getattr(importlib.import_module(module), name)
                    self.assertTrue(inspect.isfunction(found))
                    self.assertEqual(found.__module__, module)
                    self.assertEqual(str(inspect.signature(found)), arguments)

    def test_classes(self):
        for module, classes in CLASSES.items():
            for name, methods in classes.items():
                found = getattr(importlib.import_module(module), name)
                self.assertEqual(found.__module__, module)
                for method, arguments in methods.items():
                    with self.subTest(module=module, name=name, method=method):
                        self.assertIn(method, vars(found))
                        self.assertEqual(str(inspect.signature(vars(found)[method])), arguments)

    def test_fields(self):
        for found, names in FIELDS:
            self.assertLessEqual(set(names.split()), set(vars(found)))

    def test_properties(self):
        for module, classes in PROPERTIES.items():
            for name, properties in classes.items():
                found = getattr(importlib.import_module(module), name)
                for word in properties:
                    self.assertIsInstance(vars(found)[word], property)


if __name__ == "__main__":
    unittest.main()
