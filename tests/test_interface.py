"""The interface: its names, their arguments, and the files in which they are defined."""

import ast
import importlib
import inspect
import pathlib
import unittest

PACKAGE = pathlib.Path(__file__).resolve().parent.parent / "rowqueue"

FUNCTIONS = {
    "kinds": ["is_integer(thing)", "is_name(thing)"],
    "plans": ["is_plan(thing)", "show_plan(plan)", "read_plan(text)", "place_of(plan, word)"],
    "settings": ["read_setting(text)"],
    "choice": ["ordered(rows, order)", "batch(rows, setting, view, many)", "chosen(rows, setting, view)"],
    "machine": [
        "start(scene)",
        "step(scene, state, deed)",
        "moments(scene, weaving)",
        "play(scene, weaving)",
        "chosen(scene, state)",
        "able(scene, state, w)",
        "is_state(scene, thing)",
        "is_weaving(scene, thing)",
    ],
    "safety": [
        "is_bad(scene, promise, state)",
        "is_closed(scene, promise, thing)",
        "is_breach(scene, promise, thing)",
        "reached(scene, *, most=1000)",
        "check(scene, promise, *, most=1000)",
    ],
    "forms": ["shortest(scene, promise)", "takes(scene)", "breach(scene, promise)"],
    "coming": [
        "can_come(scene, wish, *, most=1000)",
        "is_ranked(scene, wish, thing)",
        "is_trap(scene, wish, weaving, thing)",
    ],
    "bounds": [
        "at_most(scene, count, *, most=1000)",
        "is_bounded(scene, count, number, thing)",
        "is_turn(scene, count, weaving, begin, turn, rest)",
    ],
    "memory": ["least_once(scene, row, *, most=1000)"],
    "alike": [
        "deeds_of(one, other)",
        "compare(one, other, *, most=1000)",
        "are_pairs(one, other, thing)",
        "least(scene, deeds, *, most=1000)",
    ],
    "changes": [
        "choices(offers)",
        "changed(scene, offers, choice)",
        "least_change(scene, offers, promises, *, most=1000)",
        "are_papers(scene, offers, promises, thing)",
    ],
    "seen": [
        "possible(scene, log, *, most=1000)",
        "are_sets(scene, log, at, thing)",
        "count(scene, log, many, *, most=1000)",
        "numbered(scene, log, many, number, *, most=1000)",
    ],
    "rounds": [
        "round_of(scene, state, turn, *, most=1000)",
        "state_after(scene, state, turn, times, *, most=1000)",
        "answers(scene, state, turn, times, *, most=1000)",
    ],
    "lanes": ["wait_of(rows, number, *, initial=0)", "total(rows, times, *, initial=0)"],
    "chains": ["ends(scene, rows, *, most=1000)"],
    "copies": ["check(reading, promise, *, most=1000)"],
    "notation": [
        "show_transaction(transaction)",
        "show_log(book)",
        "read_transaction(text)",
        "read_log(setting, text)",
    ],
}
CLASSES = {
    "settings": {
        "Setting": ["__init__(self, lines=())", "plan(self)", "lines(self)", "changed(self, *lines)"]
        + ["apart(self, other)"],
    },
    "scenes": {
        "Scene": ["__init__(self, setting, rows, *, workers=2, may=(), prompt=False)", "rows(self)", "deeds(self)"],
    },
    "queue": {
        "Queue": ["__init__(self, setting)", "do(self, now, deeds)", "time(self)", "names(self)", "free(self, many)"]
        + ["row(self, name)", "next_time(self)", "copied(self)"],
    },
    "lanes": {"Lane": ["__init__(self, *rows)", "__call__(self, wait)", "repeated(self, times)"]},
    "chains": {"Ends": ["__init__(self, numbers)", "numbers(self)", "repeated(self, k)", "kept(self)"]},
    "copies": {"Reading": ["__init__(self, scene, late)", "first(self)", "deeds(self)", "step(self, state, deed)"]},
    "book": {
        "Book": ["__init__(self, setting)", "do(self, now, deeds)", "late(self, now, deeds)", "back(self)"]
        + ["again(self)", "log(self)", "queue(self)", "queue_at(self, now)", "copied(self)"],
    },
    "desk": {"Desk": ["__init__(self, setting)", "execute(self, line)"]},
}
METHODS = {
    "Setting": ["__eq__", "__len__", "__contains__", "__repr__", "order", "dead", "counted", "skip", "fence"]
    + ["margin", "slow", "hold", "tries", "once", "pause"],
    "Scene": ["__eq__", "setting", "workers", "may", "prompt"],
    "Queue": ["__len__", "__contains__"],
    "Lane": ["__mul__", "__eq__", "__repr__", "__str__", "least", "drift"],
    "Ends": ["__mul__", "__eq__", "__contains__", "__repr__"],
    "Reading": [],
    "Book": ["__len__", "__eq__"],
    "Desk": [],
}
ERRORS = ["Wrong(place)", "BadLine(at)", "BadRow(at)", "Past(now)", "Known(name)", "NoRow(name)", "NoOrigin(name)"]
ERRORS += ["Stale(name)", "TooMany(limit)", "NoWeaving(number)", "Stopped(at)"]


def defined_in(module):
    tree = ast.parse((PACKAGE / f"{module}.py").read_text())
    return [node.name for node in tree.body if isinstance(node, (ast.FunctionDef, ast.ClassDef))]


class Interface(unittest.TestCase):
    def test_functions(self):
        for module, signatures in FUNCTIONS.items():
            found = importlib.import_module(f"rowqueue.{module}")
            for signature in signatures:
                name = signature.split("(")[0]
                self.assertEqual(name + str(inspect.signature(getattr(found, name))), signature)
                self.assertIn(name, defined_in(module))

    def test_classes(self):
        for module, classes in CLASSES.items():
            found = importlib.import_module(f"rowqueue.{module}")
            for name, signatures in classes.items():
                self.assertIn(name, defined_in(module))
                own = vars(getattr(found, name))
                for signature in signatures:
                    method = signature.split("(")[0]
                    self.assertEqual(method + str(inspect.signature(own[method])), signature)
                for method in METHODS[name]:
                    self.assertIn(method, own)

    def test_errors(self):
        errors = importlib.import_module("rowqueue.errors")
        for signature in ERRORS:
            name = signature.split("(")[0]
            self.assertEqual(name + str(inspect.signature(getattr(errors, name))), signature)
            self.assertIn(name, defined_in("errors"))


if __name__ == "__main__":
    unittest.main()
