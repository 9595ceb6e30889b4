"""x1 to x3, c6, v1: what expressions give."""

import copy
import itertools
import unittest

from remoteviews.evaluation import evaluate
from remoteviews.expressions import read_expression
from remoteviews.signs import literal, split_line, write_signs

NONE = ("none",)
FULL = ("map", tuple((f"k{at}", ("int", at)) for at in range(8)))
# One value of each kind, and of each edge of the keys.
VALUES = [
    NONE,
    ("bool", True),
    ("bool", False),
    ("int", 0),
    ("int", 3),
    ("text", ""),
    ("text", "a"),
    ("text", "k" * 12),
    ("text", "k" * 13),
    ("map", ()),
    ("map", (("a", ("int", 1)),)),
]
# The kinds of the arguments of the functions that look at all of them.
KINDS = {
    "not": ["boolean"],
    "size": ["map"],
    "reverse": ["map"],
    "add": ["integer", "integer"],
    "sub": ["integer", "integer"],
    "lt": ["integer", "integer"],
    "eq": ["any", "any"],
    "concat": ["scalar", "scalar"],
    "has": ["map", "key"],
    "get": ["map", "key"],
    "remove": ["map", "key"],
    "take": ["map", "integer"],
    "put": ["map", "key", "scalar"],
}
MESSAGES = {
    "integer": "not an integer",
    "boolean": "not a boolean",
    "scalar": "not a scalar",
    "map": "not a map",
    "key": "not a key",
}


def is_of_kind(value, kind):
    return {
        "any": True,
        "integer": value[0] == "int",
        "boolean": value[0] == "bool",
        "scalar": value[0] != "map",
        "map": value[0] == "map",
        "key": value[0] == "text" and 1 <= len(value[1]) <= 12,
    }[kind]


def expression(line):
    return read_expression(split_line(line), 0)[0]


def value(thing):
    """The value of a literal as a text, as in a template."""
    return expression(thing)[1]


class Evaluating(unittest.TestCase):
    def result(self, line, scope=None, provided=(), resources=None):
        return evaluate(expression(line), scope or {}, provided, resources or {})

    def assert_gives(self, line, literal_text, **around):
        self.assertEqual(self.result(line, **around), ("value", value(literal_text)), line)

    def assert_error(self, line, message, **around):
        self.assertEqual(self.result(line, **around), ("error", message), line)

    def assert_waits(self, line, resource, **around):
        self.assertEqual(self.result(line, **around), ("waits", resource), line)


class Plain(Evaluating):
    def test_literals(self):
        for line in ["none", "true", "false", "0", "999999", '""', '"a b"', "map()", 'map("b", 1, "a", none)']:
            self.assert_gives(line, line)

    def test_variables(self):
        scope = {"a": ("int", 3), "m": FULL, "n": NONE}
        self.assertEqual(self.result("a", scope), ("value", ("int", 3)))
        self.assertEqual(self.result("m", scope), ("value", FULL))
        self.assertEqual(self.result("n", scope), ("value", NONE))
        self.assert_error("b", "undefined name", scope=scope)
        self.assert_error("add(a, b)", "undefined name", scope=scope)
        self.assert_error("a", "undefined name")

    def test_provided_values_and_resources_are_no_variables(self):
        self.assert_error("a", "undefined name", provided=(("a", NONE),), resources={"a": NONE})


class Functions(Evaluating):
    def test_not(self):
        self.assert_gives("not(true)", "false")
        self.assert_gives("not(false)", "true")
        self.assertIs(self.result("not(true)")[1][1], False)

    def test_size(self):
        self.assert_gives("size(map())", "0")
        self.assert_gives('size(map("a", none))', "1")
        self.assertEqual(self.result("size(m)", {"m": FULL}), ("value", ("int", 8)))

    def test_reverse(self):
        self.assert_gives("reverse(map())", "map()")
        self.assert_gives('reverse(map("a", 1))', 'map("a", 1)')
        self.assert_gives('reverse(map("a", 1, "c", 3, "b", 2))', 'map("b", 2, "c", 3, "a", 1)')

    def test_add(self):
        self.assert_gives("add(0, 0)", "0")
        self.assert_gives("add(2, 3)", "5")
        self.assert_gives("add(999998, 1)", "999999")
        self.assert_gives("add(0, 999999)", "999999")
        self.assert_error("add(999999, 1)", "integer overflow")
        self.assert_error("add(999999, 999999)", "integer overflow")

    def test_sub(self):
        self.assert_gives("sub(5, 3)", "2")
        self.assert_gives("sub(3, 3)", "0")
        self.assert_gives("sub(999999, 0)", "999999")
        self.assert_error("sub(3, 4)", "integer underflow")
        self.assert_error("sub(0, 999999)", "integer underflow")

    def test_lt(self):
        self.assert_gives("lt(1, 2)", "true")
        self.assert_gives("lt(2, 2)", "false")
        self.assert_gives("lt(3, 2)", "false")
        self.assert_gives("lt(9, 10)", "true")

    def test_eq(self):
        for one, other in itertools.product(VALUES, repeat=2):
            result = self.result("eq(a, b)", {"a": one, "b": other})
            self.assertEqual(result, ("value", ("bool", one == other)))
            self.assertEqual(result[1][1], VALUES.index(one) == VALUES.index(other))
        self.assert_gives("eq(1, true)", "false")
        self.assert_gives('eq("1", 1)', "false")
        self.assert_gives('eq("", none)', "false")
        self.assert_gives('eq(map("a", 1, "b", 2), map("a", 1, "b", 2))', "true")
        self.assert_gives('eq(map("a", 1, "b", 2), map("b", 2, "a", 1))', "false")
        self.assert_gives('eq(map("a", 1), map("a", true))', "false")

    def test_concat(self):
        self.assert_gives('concat("a", "b")', '"ab"')
        self.assert_gives('concat("", "")', '""')
        self.assert_gives('concat(none, "b")', '"b"')
        self.assert_gives("concat(true, false)", '"truefalse"')
        self.assert_gives("concat(12, 0)", '"120"')
        self.assert_gives("concat(none, none)", '""')
        forty = '"' + "a" * 40 + '"'
        self.assert_gives(f"concat({forty}, none)", forty)
        self.assert_gives('concat("' + "a" * 20 + '", "' + "a" * 20 + '")', forty)
        self.assert_error(f"concat({forty}, 0)", "text too long")
        self.assert_error(f"concat({forty}, {forty})", "text too long")

    def test_has(self):
        self.assert_gives('has(map("a", none, "b", 2), "a")', "true")
        self.assert_gives('has(map("a", none, "b", 2), "b")', "true")
        self.assert_gives('has(map("a", none, "b", 2), "c")', "false")
        self.assert_gives('has(map(), "a")', "false")

    def test_get(self):
        self.assert_gives('get(map("a", none, "b", 2), "a")', "none")
        self.assert_gives('get(map("a", none, "b", 2), "b")', "2")
        self.assert_error('get(map("a", none, "b", 2), "c")', "no such key")
        self.assert_error('get(map(), "a")', "no such key")

    def test_remove(self):
        self.assert_gives('remove(map("a", 1, "b", 2, "c", 3), "b")', 'map("a", 1, "c", 3)')
        self.assert_gives('remove(map("a", 1), "a")', "map()")
        self.assert_gives('remove(map("a", 1), "b")', 'map("a", 1)')
        self.assert_gives('remove(map(), "b")', "map()")

    def test_take(self):
        three = 'map("b", 1, "c", 2, "a", 3)'
        self.assert_gives(f"take({three}, 0)", "map()")
        self.assert_gives(f"take({three}, 2)", 'map("b", 1, "c", 2)')
        for number in [3, 4, 999999]:
            self.assert_gives(f"take({three}, {number})", three)
        self.assert_gives("take(map(), 0)", "map()")

    def test_put(self):
        self.assert_gives('put(map(), "a", 1)', 'map("a", 1)')
        self.assert_gives('put(map("b", 1), "a", none)', 'map("b", 1, "a", none)')
        self.assert_gives('put(map("a", 1, "b", 2, "c", 3), "b", "x")', 'map("a", 1, "b", "x", "c", 3)')

    def test_put_into_a_full_map(self):
        scope = {"m": FULL, "n": ("map", FULL[1][:7])}
        self.assertEqual(self.result('put(n, "k7", 7)', scope), ("value", FULL))
        self.assertEqual(self.result('put(m, "k7", 7)', scope), ("value", FULL))
        changed = self.result('put(m, "k0", none)', scope)
        self.assertEqual(changed, ("value", ("map", (("k0", NONE),) + FULL[1][1:])))
        self.assert_error('put(m, "a", 1)', "too many entries", scope=scope)


class Kinds(Evaluating):
    def test_each_wrong_kind_in_each_place(self):
        """Of all rows of arguments, the first one of a wrong kind is the error."""
        for function, kinds in KINDS.items():
            names = ["a", "b", "c"][:len(kinds)]
            line = f"{function}({', '.join(names)})"
            for row in itertools.product(VALUES, repeat=len(kinds)):
                wrong = [MESSAGES[kind] for kind, given in zip(kinds, row) if not is_of_kind(given, kind)]
                result = self.result(line, dict(zip(names, row)))
                if wrong:
                    self.assertEqual(result, ("error", wrong[0]), (function, row))
                else:
                    self.assertNotIn(result, [("error", message) for message in MESSAGES.values()])

    def test_keys_of_one_and_of_twelve_characters(self):
        for key in ["a", "k" * 12, " ", '"']:
            self.assertEqual(self.result("has(map(), k)", {"k": ("text", key)}), ("value", ("bool", False)))
        for key in ["", "k" * 13, "k" * 40]:
            self.assert_error("has(map(), k)", "not a key", scope={"k": ("text", key)})

    def test_kinds_come_ahead_of_what_the_table_says(self):
        self.assert_error('put(m, "a", map())', "not a scalar", scope={"m": FULL})
        self.assert_error("add(999999, true)", "not an integer")
        self.assert_error('get(map(), "")', "not a key")

    def test_the_first_argument_that_gives_no_value(self):
        self.assert_error("add(sub(0, 1), add(999999, 1))", "integer underflow")
        self.assert_error("add(add(999999, 1), sub(0, 1))", "integer overflow")
        self.assert_error('add(1, get(map(), "a"))', "no such key")
        self.assert_error('put(none, 1, get(map(), "a"))', "no such key")
        self.assert_error("put(none, u, v)", "undefined name")
        self.assert_error('concat(sub(1, 2), resource("x"))', "integer underflow")
        self.assert_waits('concat(resource("x"), sub(1, 2))', "x")
        self.assert_waits('concat(resource("x"), resource("y"))', "x")

    def test_no_value_comes_ahead_of_a_wrong_kind(self):
        self.assert_error("add(true, sub(0, 1))", "integer underflow")
        self.assert_waits('add(true, resource("x"))', "x")
        self.assert_waits('not(resource("x"))', "x")
        self.assert_error("eq(map(), u)", "undefined name")


class Lazy(Evaluating):
    def test_and(self):
        for one, other in itertools.product([True, False], repeat=2):
            line = f"and({str(one).lower()}, {str(other).lower()})"
            self.assert_gives(line, str(one and other).lower())

    def test_and_looks_at_the_first_one_first(self):
        for other in ["true", "1", "u", 'resource("x")', "sub(0, 1)"]:
            for wrong in ["none", "1", '"true"', "map()"]:
                self.assert_error(f"and({wrong}, {other})", "not a boolean")
            self.assert_error(f"and(u, {other})", "undefined name")
            self.assert_error(f"and(sub(0, 1), {other})", "integer underflow")
            self.assert_waits(f'and(resource("y"), {other})', "y")

    def test_and_passes_the_second_one_over(self):
        for other in ["true", "1", "map()", "u", 'resource("x")', "sub(0, 1)"]:
            self.assert_gives(f"and(false, {other})", "false")

    def test_and_needs_the_second_one(self):
        for wrong in ["none", "1", '"true"', "map()"]:
            self.assert_error(f"and(true, {wrong})", "not a boolean")
        self.assert_error("and(true, u)", "undefined name")
        self.assert_error("and(true, sub(0, 1))", "integer underflow")
        self.assert_waits('and(true, resource("x"))', "x")

    def test_cond(self):
        for one, other in itertools.product(["none", "true", "1", '"a"', "map()", 'map("a", 1)'], repeat=2):
            self.assert_gives(f"cond(true, {one}, {other})", one)
            self.assert_gives(f"cond(false, {one}, {other})", other)

    def test_cond_passes_the_other_one_over(self):
        for other in ["u", 'resource("x")', "sub(0, 1)", "not(1)"]:
            self.assert_gives(f"cond(true, 1, {other})", "1")
            self.assert_gives(f"cond(false, {other}, 1)", "1")

    def test_cond_needs_its_choice(self):
        self.assert_error("cond(true, u, 1)", "undefined name")
        self.assert_error("cond(false, 1, sub(0, 1))", "integer underflow")
        self.assert_waits('cond(true, resource("x"), resource("y"))', "x")
        self.assert_waits('cond(false, resource("x"), resource("y"))', "y")

    def test_cond_looks_at_the_first_one_first(self):
        for other in ["1", "u", 'resource("x")', "sub(0, 1)"]:
            for wrong in ["none", "0", '"true"', "map()"]:
                self.assert_error(f"cond({wrong}, {other}, {other})", "not a boolean")
            self.assert_error(f"cond(u, {other}, {other})", "undefined name")
            self.assert_waits(f'cond(resource("y"), {other}, {other})', "y")


class Resources(Evaluating):
    def test_one_that_has_come(self):
        for come in VALUES:
            self.assertEqual(self.result('resource("x")', resources={"x": come}), ("value", come))
        self.assert_gives('resource(concat("a", n))', "2", scope={"n": ("int", 1)}, resources={"a1": ("int", 2)})

    def test_one_that_waits(self):
        self.assert_waits('resource("x")', "x")
        self.assert_waits('resource("x")', "x", resources={"y": NONE})
        self.assert_waits('resource("' + "a" * 40 + '")', "a" * 40)
        self.assert_waits("resource(n)", " ", scope={"n": ("text", " ")})

    def test_wrong_names(self):
        for wrong in ['""', "none", "true", "1", "map()", 'map("a", 1)']:
            self.assert_error(f"resource({wrong})", "invalid resource name", resources={"": NONE})

    def test_no_name(self):
        self.assert_error("resource(u)", "undefined name")
        self.assert_waits('resource(resource("x"))', "x")
        self.assert_gives('resource(resource("x"))', "1", resources={"x": ("text", "y"), "y": ("int", 1)})


class Injects(Evaluating):
    def test_a_provided_value(self):
        provided = (("a", ("int", 1)), ("m", FULL))
        self.assert_gives("inject(a, 2)", "1", provided=provided)
        self.assertEqual(self.result("inject(m, 2)", provided=provided), ("value", FULL))

    def test_the_innermost_one(self):
        provided = (("b", ("int", 0)), ("a", ("int", 1)), ("a", ("int", 2)), ("b", ("int", 3)))
        self.assert_gives("inject(a, 9)", "1", provided=provided)
        self.assert_gives("inject(b, 9)", "0", provided=provided)

    def test_without_one(self):
        self.assert_gives("inject(a, 2)", "2")
        self.assert_gives("inject(a, b)", "2", scope={"b": ("int", 2)}, provided=(("b", NONE),))
        self.assert_error("inject(a, u)", "undefined name", provided=(("b", NONE),))
        self.assert_error("inject(a, sub(0, 1))", "integer underflow")
        self.assert_waits('inject(a, resource("x"))', "x")

    def test_the_other_expression_is_evaluated_only_then(self):
        for other in ["u", "sub(0, 1)", 'resource("x")']:
            self.assert_gives(f"inject(a, {other})", "1", provided=(("a", ("int", 1)),))

    def test_variables_are_not_provided(self):
        self.assert_gives("inject(a, 2)", "2", scope={"a": ("int", 1)}, resources={"a": ("int", 1)})

    def test_within_others(self):
        provided = (("a", ("int", 1)),)
        self.assert_gives("inject(b, add(inject(a, 5), inject(c, 7)))", "8", provided=provided)
        self.assert_gives("cond(lt(inject(a, 5), 2), inject(a, 5), u)", "1", provided=provided)


class Whole(Evaluating):
    def test_nothing_that_was_handed_in_is_changed(self):
        scope = {"m": FULL, "n": ("int", 2), "b": ("bool", True)}
        provided = (("a", ("int", 1)),)
        resources = {"x": FULL}
        before = copy.deepcopy((scope, provided, resources))
        for line in [
            'put(m, "k0", inject(a, 2))',
            'remove(resource("x"), "k1")',
            'put(remove(m, "k1"), "z", 1)',
            "reverse(take(m, n))",
            'cond(b, resource("y"), u)',
            "inject(q, add(n, u))",
        ]:
            first = evaluate(expression(line), scope, provided, resources)
            self.assertEqual(evaluate(expression(line), scope, provided, resources), first)
            self.assertEqual((scope, provided, resources), before)

    def test_beyond_the_bounds_nothing_is_raised(self):
        deep = ("variable", "b")
        for _ in range(8):
            deep = ("call", "not", (deep,))
        self.assertEqual(evaluate(deep, {"b": ("bool", True)}, (), {}), ("value", ("bool", True)))

    def test_values_are_written_and_evaluated_back(self):
        for thing in VALUES + [FULL]:
            self.assertEqual(self.result(write_signs(literal(thing))), ("value", thing))

    def test_examples(self):
        self.assertEqual(self.result("add(n, 1)", {"n": ("int", 3)}), ("value", ("int", 4)))
        self.assertEqual(self.result('and(false, resource("x"))'), ("value", ("bool", False)))
        self.assertEqual(self.result('concat(sub(1, 2), resource("x"))'), ("error", "integer underflow"))
        self.assertEqual(self.result('concat(resource("x"), sub(1, 2))'), ("waits", "x"))


if __name__ == "__main__":
    unittest.main()
