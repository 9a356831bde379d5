"""The interface of DOC.md: each name is defined in its file, each method in its class."""

import ast
import inspect
import pathlib
import unittest

import streamsure
from streamsure import apart, changes, comparing, differing, errors, fallerrors, language, lives, machines
from streamsure import meaning, queries, routing, sets, shell, splitting, statetexts, storing, tables, waiting

PACKAGE = pathlib.Path(streamsure.__file__).parent

FUNCTIONS = {
    "sets": {
        "normal": ["pairs"], "union": ["one", "other"], "meet": ["one", "other"],
        "others": ["one"], "has": ["one", "number"], "least": ["one"], "greatest": ["one"],
        "how_many": ["one"], "some_member": ["one"], "member_but": ["one", "seen"],
    },
    "meaning": {"stream_of": ["letters"], "meaning": ["query", "events"]},
    "machines": {
        "start": ["query"], "step": ["query", "state", "letter"], "run": ["query", "letters"],
        "told_by": ["query", "letters"], "is_seen": ["query", "event"],
    },
    "waiting": {
        "taken_back": ["query", "events", "mark", "answer"],
        "waiting_for": ["query", "events", "mark"],
    },
    "apart": {"told_apart": ["query", "one", "other"]},
    "tables": {
        "is_finite": ["query"], "table_of": ["query", "ahead", "most"], "run_table": ["table", "letters"],
    },
    "changes": {
        "changes": ["query", "letters"], "marked": ["letters", "late"], "least_lateness": ["letters"],
    },
    "language": {"read_book": ["text"], "write_book": ["book"]},
    "statetexts": {"value_text": ["value"], "value_by": ["text"]},
    "storing": {
        "whole_text": ["number", "body"], "whole_of": ["text"], "torn": ["old", "new", "cut", "is_over"],
        "newest": ["places"], "with_text": ["places", "number", "text"],
    },
    "lives": {
        "actions_from": ["query", "letters", "every", "places"], "plain_answers": ["query", "letters"],
    },
    "splitting": {
        "key_of": ["query", "event"], "split_start": ["query", "split"],
        "split_step": ["query", "split", "states", "letter"], "split_run": ["query", "split", "letters"],
        "together": ["told"], "mark_of": ["query", "state"], "moved_key": ["query", "one", "other", "key"],
    },
    "routing": {
        "tree_for": ["kinds", "queries"], "walked": ["tree", "event"], "lot_of": ["tree", "event"],
        "most_tests": ["node"], "tests_bound": ["kinds", "queries", "kind"],
        "wrong_tree": ["kinds", "queries", "tree"], "run_many": ["queries", "tree", "letters"],
    },
    "comparing": {"form_of": ["query"], "are_same": ["one", "other"]},
    "differing": {"told_from": ["one", "other"]},
    "shell": {"read_script": ["text"], "run_script": ["text"]},
}
CLASSES = {
    "sets": {},
    "queries": {
        "Kinds": (["fields"], {"is_event": ["self", "thing"]}),
        "Side": (["kinds", "kind", "where"], {"form": ["self"]}),
        "Each": (["side", "told"], {"form": ["self"], "is_empty": ["self"]}),
        "Windows": (["side", "by", "length", "step", "worths"],
                    {"form": ["self"], "is_empty": ["self"]}),
        "Blocks": (["side", "by", "size", "worths"], {"form": ["self"], "is_empty": ["self"]}),
        "Sessions": (["side", "by", "gap", "worths"], {"form": ["self"], "is_empty": ["self"]}),
        "Pairs": (["first", "second", "by", "mode", "reach", "told"],
                  {"form": ["self"], "is_empty": ["self"]}),
        "Lonely": (["first", "second", "by", "reach", "told"],
                   {"form": ["self"], "is_empty": ["self"]}),
    },
    "errors": {
        "StreamError": (None, {}), "BadQuery": (["word"], {}), "BadLetter": (["number"], {}),
        "TooMany": (["most"], {}), "NotFinite": ([], {}), "BadText": (["line", "word"], {}),
    },
    "fallerrors": {"BadPlace": (["place"], {}), "BadState": (["word"], {})},
    "tables": {"Table": (None, {})},
    "language": {"Book": (["kinds", "queries"], {"form": ["self"]})},
    "lives": {
        "Sink": ([], {"take": ["self", "number", "answer"], "answers": ["self"]}),
        "World": (["query", "letters", "every"],
                  {"live": ["self", "many", "cut", "is_over"], "finish": ["self"]}),
    },
    "splitting": {"Split": (["many", "told"], {"machine_of": ["self", "key"]})},
    "shell": {"Script": (["book", "commands"], {})},
}
MODULES = {
    "apart": apart, "changes": changes, "comparing": comparing, "differing": differing, "errors": errors,
    "fallerrors": fallerrors, "language": language, "lives": lives, "machines": machines, "meaning": meaning,
    "queries": queries, "routing": routing, "sets": sets, "shell": shell, "splitting": splitting,
    "statetexts": statetexts, "storing": storing, "tables": tables, "waiting": waiting,
}


def defined(name, kind):
    tree = ast.parse((PACKAGE / f"{name}.py").read_text(encoding="utf-8"))
    return [node.name for node in tree.body if isinstance(node, kind)]


class InterfaceTest(unittest.TestCase):
    def test_functions_are_defined_in_their_files(self):
        for name, functions in FUNCTIONS.items():
            here = defined(name, ast.FunctionDef)
            for function, told in functions.items():
                self.assertIn(function, here)
                found = inspect.signature(getattr(MODULES[name], function)).parameters
                self.assertEqual(list(found), told, function)

    def test_classes_are_defined_in_their_files(self):
        for name, classes in CLASSES.items():
            here = defined(name, ast.ClassDef)
            for class_name, (told, methods) in classes.items():
                self.assertIn(class_name, here)
                made = getattr(MODULES[name], class_name)
                if told is not None:
                    found = inspect.signature(made).parameters
                    self.assertEqual(list(found), told, class_name)
                for method, parameters in methods.items():
                    self.assertIn(method, vars(made), class_name)
                    found = inspect.signature(vars(made)[method]).parameters
                    self.assertEqual(list(found), parameters, (class_name, method))

    def test_constants_are_defined_in_their_file(self):
        tree = ast.parse((PACKAGE / "sets.py").read_text(encoding="utf-8"))
        names = [node.targets[0].id for node in tree.body if isinstance(node, ast.Assign)]
        self.assertIn("EVERYTHING", names)
        self.assertIn("NOTHING", names)

    def test_a_side_has_both_methods_of_its_own(self):
        self.assertIn("form", vars(queries.Side))
        self.assertIn("is_empty", vars(queries.Side))


if __name__ == "__main__":
    unittest.main()
