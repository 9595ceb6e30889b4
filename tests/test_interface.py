"""The interface: each name stands in its own file, with the arguments that it tells."""

import importlib
import inspect
import unittest

FUNCTIONS = {
    "values": {
        "is_name": ["thing"],
        "is_scalar": ["thing"],
        "is_value": ["thing"],
        "is_key": ["thing"],
        "plain": ["scalar"],
    },
    "signs": {
        "split_line": ["line"],
        "write_signs": ["signs"],
        "literal": ["value"],
    },
    "expressions": {
        "read_expression": ["signs", "at"],
        "expression_signs": ["expression"],
        "variables": ["expression"],
    },
    "evaluation": {
        "evaluate": ["expression", "scope", "provided", "resources"],
    },
    "templates": {
        "parse_template": ["text"],
    },
    "writing": {
        "template_text": ["template"],
    },
    "trees": {
        "apply_patch": ["tree", "patch"],
        # LANGUAGE.md does not allow the name id for it.
        "find": ["tree", "node_id"],
        "ids": ["tree"],
    },
    "diffs": {
        "goes_over": ["one", "other"],
        "diff": ["one", "other"],
        "staying": ["places"],
    },
    "messages": {
        "write_update": ["update"],
        "read_update": ["text"],
        "write_report": ["report"],
        "read_report": ["text"],
    },
}
ERRORS = {
    "ViewError": [],
    "BadSigns": ["offset"],
    "BadTemplate": ["line", "reason"],
    "BadExpression": [],
    "BadMessage": [],
    "BadPatch": [],
    "BadEntry": ["line"],
    "NotNext": ["line"],
    "BadArgument": ["reason"],
}


class Interface(unittest.TestCase):
    def test_functions(self):
        for file, functions in FUNCTIONS.items():
            module = importlib.import_module("remoteviews." + file)
            for name, arguments in functions.items():
                function = getattr(module, name)
                self.assertTrue(inspect.isfunction(function), name)
                self.assertEqual(function.__module__, module.__name__, name)
                self.assertEqual(list(inspect.signature(function).parameters), arguments, name)

    def test_errors(self):
        module = importlib.import_module("remoteviews.errors")
        for name, fields in ERRORS.items():
            kind = getattr(module, name)
            self.assertTrue(inspect.isclass(kind), name)
            self.assertEqual(kind.__module__, module.__name__, name)
            error = kind(*range(len(fields)))
            self.assertEqual([getattr(error, field) for field in fields], list(range(len(fields))), name)


if __name__ == "__main__":
    unittest.main()
