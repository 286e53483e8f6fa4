"""The interface: where its names are defined, and their parameters; and what the package may use."""

import ast
import importlib
import inspect
import pathlib
import unittest

PACKAGE = pathlib.Path(__file__).resolve().parent.parent / "fewtuners"

FUNCTIONS = {
    "fewtuners.wishing": {
        "wishes": "(book, listing)",
        "sendings_of": "(book, listing, episode)",
        "window": "(book, listing, name)",
        "overlaps": "(book, listing, name)",
    },
    "fewtuners.plans": {
        "own_plan": "(book, listing, receivers)",
        "is_plan": "(book, listing, receivers, plan)",
        "lost": "(book, listing, receivers)",
        "in_the_way": "(book, listing, receivers, episode)",
    },
    "fewtuners.choices": {
        "best_choice": "(book, listing, receivers)",
        "seated": "(book, listing, names)",
        "fewest_own": "(book, listing)",
        "fewest_best": "(book, listing)",
        "busiest": "(book, listing, names)",
    },
    "fewtuners.delays": {
        "whole": "(book, listing, plan, delays)",
        "surely_whole": "(book, listing, plan)",
        "least_more": "(book, listing, receivers)",
    },
    "fewtuners.disks": {
        "on_disk": "(book, listing, receivers, minutes, protected)",
        "least_disk": "(book, listing, receivers, protected)",
        "rounds": "(book, listing, receivers)",
        "round_of": "(book, listing, receivers, episode)",
    },
    "fewtuners.pools": {
        "difference": "(book, other, listing, receivers)",
        "possible_books": "(pool, most, log)",
        "judged": "(pool, most, log, index)",
    },
    "fewtuners.changing": {
        "changes": "(one, other)",
        "shifted": "(book, one, other, receivers)",
    },
    "fewtuners.steady": {
        "steady_choice": "(book, listing, receivers, names)",
    },
    "fewtuners.people": {
        "wishers": "(books, listing, name)",
        "fair_choice": "(books, listing, receivers)",
    },
    "fewtuners.guessing": {
        "next_listing": "(pool, most, log, rows)",
        "fewest_listings": "(pool, most, log, rows)",
    },
    "fewtuners.hours": {
        "busy_minutes": "(book, listing, receivers)",
        "free_receiver": "(book, listing, receivers, begin, end)",
        "longest_pause": "(book, listing, receivers, begin, end)",
    },
    "fewtuners.tables": {
        "table": "(book, listing, receivers)",
    },
    "fewtuners.notation": {
        "format_book": "(book, listing)",
        "parse_book": "(text)",
    },
    "fewtuners.codec": {
        "encode_listing": "(listing)",
        "decode_listing": "(values)",
    },
}

CLASSES = {
    "fewtuners.listings": {
        "Sending": {
            "__init__": "(self, channel, show, episode, begin, end, late=0)",
            "__eq__": "(self, other)",
            "channel": "property", "show": "property", "episode": "property",
            "begin": "property", "end": "property", "late": "property",
        },
        "Listing": {
            "__init__": "(self, sendings)",
            "__eq__": "(self, other)",
            "__getitem__": "(self, name)",
            "__contains__": "(self, name)",
            "__len__": "(self)",
            "with_sending": "(self, name, sending)",
            "only": "(self, names)",
            "names": "property", "sendings": "property",
        },
    },
    "fewtuners.books": {
        "Rule": {
            "__init__": "(self, show, first, last, priority, before=0, after=0)",
            "__eq__": "(self, other)",
            "show": "property", "first": "property", "last": "property",
            "priority": "property", "before": "property", "after": "property",
        },
        "Book": {
            "__init__": "(self, rules, seen=())",
            "rule_of": "(self, show, episode)",
            "with_seen": "(self, episodes)",
            "rules": "property", "seen": "property",
        },
    },
    "fewtuners.lateness": {
        "Lateness": {
            "__init__": "(self, listing, channel)",
            "on_air": "(self, name, minute)",
            "silent": "(self, name, minute)",
            "surely_on": "(self, name)",
            "best_minute": "(self, name)",
            "delays": "property", "calls": "property",
        },
    },
    "fewtuners.recorders": {
        "Recorder": {
            "__init__": "(self, book, listing, receivers)",
            "add": "(self, name, sending)",
            "drop": "(self, name)",
            "wish": "(self, rule)",
            "unwish": "(self, index)",
            "watch": "(self, show, episode)",
            "run": "(self, minute)",
            "mark": "(self, name)",
            "go": "(self, name)",
            "undo": "(self)",
            "redo": "(self)",
            "book": "(self)",
            "listing": "(self)",
            "plan": "(self)",
            "apply_all": "(self, operations)",
            "tried": "(self, operations, keep)",
            "replay": "(book, listing, receivers, operations)",
            "time": "property", "recorded": "property", "marks": "property", "history": "property",
        },
        "Trial": {
            "__init__": "(self, recorder)",
            "__enter__": "(self)",
            "__exit__": "(self, kind, value, trace)",
            "hold": "(self)",
        },
    },
    "fewtuners.daybooks": {
        "Daybook": {
            "__init__": "(self, text)",
            "recorder": "(self)",
            "results": "property",
        },
    },
}


def trees():
    """Return tuples of the name and the parsed text of each file of the package."""
    return [(path.name, ast.parse(path.read_text())) for path in sorted(PACKAGE.glob("*.py"))]


def form_of(found, member):
    """Return "property", or the parameters of a method; without the class, if it is a class method."""
    if isinstance(vars(found)[member], property):
        return "property"
    if isinstance(vars(found)[member], classmethod):
        return str(inspect.signature(getattr(found, member)))
    return str(inspect.signature(vars(found)[member]))


class InterfaceTest(unittest.TestCase):
    def test_functions(self):
        for module, functions in FUNCTIONS.items():
            for name, parameters in functions.items():
                with self.subTest(module=module, name=name):
                    found = getattr(importlib.import_module(module), name)
                    self.assertEqual(found.__module__, module)
                    self.assertEqual(str(inspect.signature(found)), parameters)

    def test_classes(self):
        for module, classes in CLASSES.items():
            for name, members in classes.items():
                found = getattr(importlib.import_module(module), name)
                self.assertEqual(found.__module__, module)
                for member, form in members.items():
                    with self.subTest(module=module, name=name, member=member):
                        self.assertIn(member, vars(found))
                        self.assertEqual(form_of(found, member), form)


class SourceTest(unittest.TestCase):
    def test_no_clock_no_randomness_no_files(self):
        allowed = {"heapq", "math", "itertools", "collections"}
        for name, tree in trees():
            for node in ast.walk(tree):
                with self.subTest(file=name, line=getattr(node, "lineno", 0)):
                    self.assertNotIsInstance(node, ast.Import)
                    if isinstance(node, ast.ImportFrom):
                        self.assertTrue(node.module.startswith("fewtuners.") or node.module in allowed, node.module)
                    if isinstance(node, ast.Name):
                        self.assertNotIn(node.id, ("open", "input", "print", "hash", "id"))

    def test_sizes(self):
        for name, tree in trees():
            lines = (PACKAGE / name).read_text().split("\n")
            self.assertLess(len(lines), 400, name)
            self.assertLessEqual(max(map(len, lines)), 120, name)
            for node in ast.walk(tree):
                if isinstance(node, ast.FunctionDef):
                    with self.subTest(file=name, function=node.name):
                        self.assertLessEqual(node.end_lineno - node.lineno + 1, 40)

    def test_characters(self):
        for path in PACKAGE.glob("*.py"):
            with self.subTest(path.name):
                self.assertEqual({sign for sign in path.read_text() if not (" " <= sign <= "~" or sign == "\n")}, set())


if __name__ == "__main__":
    unittest.main()
