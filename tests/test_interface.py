"""The interface: each name stands in its own file, with the arguments that it tells."""

import importlib
import inspect
import unittest

FUNCTIONS = {
    "values": {
        "is_name": ["thing"],
        "is_scalar": ["thing"],
        "is_value": ["thing"],
        "is_key": ["thing"],
        "plain": ["scalar"],
    },
    "signs": {
        "split_line": ["line"],
        "write_signs": ["signs"],
        "literal": ["value"],
    },
    "expressions": {
        "read_expression": ["signs", "at"],
        "expression_signs": ["expression"],
        "variables": ["expression"],
    },
    "evaluation": {
        "evaluate": ["expression", "scope", "provided", "resources"],
    },
    "templates": {
        "parse_template": ["text"],
    },
    "writing": {
        "template_text": ["template"],
    },
    "trees": {
        "apply_patch": ["tree", "patch"],
        # LANGUAGE.md does not allow the name id for it.
        "find": ["tree", "node_id"],
        "ids": ["tree"],
    },
    "diffs": {
        "goes_over": ["one", "other"],
        "diff": ["one", "other"],
        "staying": ["places"],
    },
    "messages": {
        "write_update": ["update"],
        "read_update": ["text"],
        "write_report": ["report"],
        "read_report": ["text"],
    },
    "rendering": {
        "render": ["template", "client", "shared", "resources", "instances"],
    },
    "identity": {
        "numbered": ["visited", "kept", "next_number"],
        "with_ids": ["nodes", "instances", "newest", "next_id"],
        "keys": ["nodes", "ids", "instances"],
        "drawing": ["layers", "nodes", "ids"],
    },
    "events": {
        "handler_at": ["rows", "node", "event"],
        "run": ["template", "nodes", "ids", "at", "event", "scalar", "resources"],
    },
    "entries": {
        "write_entry": ["entry"],
        "read_entry": ["line"],
    },
    "server": {
        "replay": ["lines"],
    },
}
# Each class with its methods, all defined in the class itself.
CLASSES = {
    "sessions": ("Session", {
        "__init__": ["client"],
        "draw": ["template", "shared", "resources"],
        "newest": [],
        "kept": ["version"],
        "decide": ["event"],
    }),
    "server": ("Server", {
        "__init__": ["name", "text"],
        "connect": [],
        "disconnect": ["client"],
        "dispatch": ["client", "node", "event", "scalar"],
        "resolve": ["resource", "value"],
        "replace": ["text"],
        "receive": ["text"],
        "update": ["client"],
        "session": ["client"],
        "outcomes": ["client"],
        "shared": [],
        "log": [],
        "saved": [],
        "clients": [],
    }),
    "client": ("View", {
        "__init__": ["server", "client"],
        "receive": ["text"],
        "queue": ["node", "event", "scalar"],
        "report": [],
        "tree": [],
        "version": [],
        "outcomes": [],
        "outstanding": [],
    }),
    "world": ("World", {
        "__init__": ["name", "text"],
        "connect": [],
        "disconnect": ["client"],
        "update": ["client"],
        "report": ["client"],
        "wire": [],
        "drop": ["place"],
        "double": ["place"],
        "deliver": ["place"],
        "stop": ["count"],
    }),
}
ERRORS = {
    "ViewError": [],
    "BadSigns": ["offset"],
    "BadTemplate": ["line", "reason"],
    "BadExpression": [],
    "BadMessage": [],
    "BadPatch": [],
    "BadEntry": ["line"],
    "NotNext": ["line"],
    "BadArgument": ["reason"],
}


class Interface(unittest.TestCase):
    def test_functions(self):
        for file, functions in FUNCTIONS.items():
            module = importlib.import_module("remoteviews." + file)
            for name, arguments in functions.items():
                function = getattr(module, name)
                self.assertTrue(inspect.isfunction(function), name)
                self.assertEqual(function.__module__, module.__name__, name)
                self.assertEqual(list(inspect.signature(function).parameters), arguments, name)

    def test_classes(self):
        for file, (name, methods) in CLASSES.items():
            module = importlib.import_module("remoteviews." + file)
            kind = getattr(module, name)
            self.assertTrue(inspect.isclass(kind), name)
            self.assertEqual(kind.__module__, module.__name__, name)
            for method, arguments in methods.items():
                self.assertIn(method, vars(kind), name)
                parameters = list(inspect.signature(vars(kind)[method]).parameters)
                self.assertEqual(parameters, ["self"] + arguments, method)

    def test_errors(self):
        module = importlib.import_module("remoteviews.errors")
        for name, fields in ERRORS.items():
            kind = getattr(module, name)
            self.assertTrue(inspect.isclass(kind), name)
            self.assertEqual(kind.__module__, module.__name__, name)
            error = kind(*range(len(fields)))
            self.assertEqual([getattr(error, field) for field in fields], list(range(len(fields))), name)


if __name__ == "__main__":
    unittest.main()
