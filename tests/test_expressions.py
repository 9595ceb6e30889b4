"""x1, c2, c5, s4: expressions are read from signs, written as signs, and asked for their variables."""

import itertools
import unittest

from remoteviews.errors import BadExpression, ViewError
from remoteviews.expressions import RESERVED, expression_signs, read_expression, variables
from remoteviews.signs import split_line, write_signs

# Of x1: each function with how many expressions it takes, in the order of the table.
TABLE = [
    ("not", 1),
    ("size", 1),
    ("reverse", 1),
    ("add", 2),
    ("sub", 2),
    ("lt", 2),
    ("eq", 2),
    ("and", 2),
    ("concat", 2),
    ("has", 2),
    ("get", 2),
    ("remove", 2),
    ("take", 2),
    ("put", 3),
    ("cond", 3),
    ("resource", 1),
]
RESERVED_NAMES = ["none", "true", "false", "map", "inject"] + [name for name, _ in TABLE]


def variable(name):
    return ("variable", name)


def integer(value):
    return ("literal", ("int", value))


def call(function, *arguments):
    return ("call", function, arguments)


def nested(depth, inner="a"):
    """The text of calls that are nested that deep."""
    return "not(" * depth + inner + ")" * depth


def many_calls(number):
    """The text of an expression of that many calls, at most 13, nested at most 4 deep."""
    inner = ["not(a)" if place < number - 4 else "a" for place in range(9)]
    outer = [f"put({', '.join(inner[place:place + 3])})" for place in (0, 3, 6)]
    return f"put({', '.join(outer)})"


class Reading(unittest.TestCase):
    def assert_read(self, line, expression):
        """The whole line is the expression, and so it is wherever it stands in a row of signs."""
        signs = split_line(line)
        self.assertEqual(read_expression(signs, 0), (expression, len(signs)), line)
        for ahead, behind in itertools.product(["", "a", "add (", '"q" 1 ='], ["", "a", ")", ", 1)", "= 2", "( b )"]):
            row = split_line(ahead) + signs + split_line(behind)
            at = len(split_line(ahead))
            self.assertEqual(read_expression(row, at), (expression, at + len(signs)), (ahead, line, behind))

    def assert_none(self, line, at=0):
        with self.assertRaises(BadExpression, msg=line) as seen:
            read_expression(split_line(line), at)
        self.assertIsInstance(seen.exception, ViewError)


class Literals(Reading):
    def test_scalars(self):
        for line, scalar in [
            ("none", ("none",)),
            ("true", ("bool", True)),
            ("false", ("bool", False)),
            ("0", ("int", 0)),
            ("1", ("int", 1)),
            ("999999", ("int", 999999)),
            ('""', ("text", "")),
            ('"none"', ("text", "none")),
            ('"12"', ("text", "12")),
            (r'"a \"b\" \\"', ("text", 'a "b" \\')),
            ('"' + "a" * 40 + '"', ("text", "a" * 40)),
        ]:
            self.assert_read(line, ("literal", scalar))

    def test_booleans_and_integers_are_told_apart(self):
        self.assertIs(read_expression(split_line("true"), 0)[0][1][1], True)
        self.assertIs(read_expression(split_line("false"), 0)[0][1][1], False)
        self.assertIs(type(read_expression(split_line("1"), 0)[0][1][1]), int)

    def test_beyond_the_bounds_of_scalars(self):
        self.assert_none("1000000")
        self.assert_none("999999999")
        self.assert_none('"' + "a" * 41 + '"')
        self.assert_none(r'"a\nb"')
        self.assert_none(r'"\n"')

    def test_maps(self):
        self.assert_read("map()", ("literal", ("map", ())))
        self.assert_read('map("a", 1)', ("literal", ("map", (("a", ("int", 1)),))))
        self.assert_read(
            'map("z", none, " ", 1)',
            ("literal", ("map", (("z", ("none",)), (" ", ("int", 1))))),
        )
        self.assert_read(
            'map("b", true, "a", "x", "map", 999999)',
            ("literal", ("map", (("b", ("bool", True)), ("a", ("text", "x")), ("map", ("int", 999999))))),
        )
        self.assert_read('map("' + "k" * 12 + '", "")', ("literal", ("map", (("k" * 12, ("text", "")),))))

    def test_maps_of_up_to_eight_entries(self):
        for size in range(9):
            inner = ", ".join(f'"k{at}", {at}' for at in range(size))
            entries = tuple((f"k{at}", ("int", at)) for at in range(size))
            self.assert_read(f"map({inner})", ("literal", ("map", entries)))
        for size in [9, 10, 400]:
            inner = ", ".join(f'"k{at}", {at}' for at in range(size))
            self.assert_none(f"map({inner})")

    def test_wrong_keys(self):
        self.assert_none('map("a", 1, "a", 1)')
        self.assert_none('map("a", 1, "b", 1, "a", 2)')
        self.assert_none('map("", 1)')
        self.assert_none('map("' + "k" * 13 + '", 1)')
        self.assert_none(r'map("a\nb", 1)')
        for key in ["a", "1", "none", "true", "(", "=", ",", "map()", 'concat("a", "b")']:
            self.assert_none(f"map({key}, 1)")

    def test_wrong_scalars_in_maps(self):
        for scalar in ["a", "1000000", '"' + "a" * 41 + '"', r'"\n"', "map()", "not(true)", "add(1, 2)", "=", "map"]:
            self.assert_none(f'map("a", {scalar})')
            self.assert_none(f'map("b", 1, "a", {scalar}, "c", 2)')

    def test_wrong_forms_of_maps(self):
        for line in [
            "map",
            "map 1",
            "map(",
            'map("a")',
            'map("a", 1',
            'map("a", 1,',
            'map("a", 1,)',
            'map("a",)',
            'map("a" 1)',
            'map("a", 1 "b", 2)',
            'map(, "a", 1)',
            'map("a",, 1)',
            "map(,)",
            "map)",
            'map = ("a", 1)',
            'map("a", 1, "b")',
        ]:
            self.assert_none(line)


class Variables(Reading):
    def test_names_that_are_not_reserved(self):
        for name in ["a", "n", "stock", "me", "maps", "none1", "nott", "in", "offset", "if", "text", "layers", "a" * 12]:
            self.assert_read(name, variable(name))

    def test_reserved_names_are_none(self):
        for name in RESERVED_NAMES[3:]:
            self.assert_none(name)
            self.assert_none(f"{name} a")
            self.assert_none(f"{name} =")
            self.assert_none(f"not({name})")

    def test_the_words_of_literals_are_no_variables(self):
        for name in RESERVED_NAMES[:3]:
            self.assertEqual(read_expression([("name", name)], 0)[0][0], "literal")

    def test_a_name_that_is_no_function_is_not_called(self):
        # The variable is an expression, the parentheses behind it do not belong to it.
        self.assertEqual(read_expression(split_line("foo(1)"), 0), (variable("foo"), 1))
        for line in ["not(foo(1))", "add(foo(1), 2)", "add(1, foo())", "inject(a, foo(1))", "resource(foo(1))"]:
            self.assert_none(line)


class Calls(Reading):
    def test_each_function(self):
        for function, arity in TABLE:
            arguments = ["a", "1", '"x"'][:arity]
            expressions = [variable("a"), integer(1), ("literal", ("text", "x"))][:arity]
            self.assert_read(f"{function}({', '.join(arguments)})", call(function, *expressions))

    def test_too_few_and_too_many(self):
        for function, arity in TABLE:
            for number in range(6):
                if number != arity:
                    self.assert_none(f"{function}({', '.join(['a'] * number)})")

    def test_missing_signs(self):
        for line in [
            "add(a, b",
            "add(a, ",
            "add(a",
            "add(",
            "add a, b)",
            "add(a b)",
            "add(a, b,)",
            "add(, a, b)",
            "add(a,, b)",
            "add((a), b)",
            "add = (a, b)",
            "add(a = b)",
            "add(a, =)",
            "add)a, b(",
            "not()",
            "not(a",
            "not a",
            "put(a, b c)",
            "cond(a b, c)",
            "resource(a = )",
        ]:
            self.assert_none(line)

    def test_each_beginning_of_a_call_is_none(self):
        signs = split_line('put(map("a", 1), cond(b, inject(c, "x"), "y"), add(1, 2))')
        self.assertEqual(read_expression(signs, 0)[1], len(signs))
        for end in range(len(signs)):
            with self.assertRaises(BadExpression):
                read_expression(signs[:end], 0)

    def test_nested_ones(self):
        self.assert_read(
            'put(m, concat("a", k), cond(not(b), add(1, n), inject(c, 2)))',
            call(
                "put",
                variable("m"),
                call("concat", ("literal", ("text", "a")), variable("k")),
                call("cond", call("not", variable("b")), call("add", integer(1), variable("n")), ("inject", "c", integer(2))),
            ),
        )

    def test_other_spaces(self):
        for line in ["add(a,1)", " add ( a , 1 ) ", "add( a,1)"]:
            self.assertEqual(read_expression(split_line(line), 0), (call("add", variable("a"), integer(1)), 6))


class Injects(Reading):
    def test_with_any_expression(self):
        self.assert_read("inject(a, 1)", ("inject", "a", integer(1)))
        self.assert_read("inject(a, a)", ("inject", "a", variable("a")))
        self.assert_read("inject(a, map())", ("inject", "a", ("literal", ("map", ()))))
        self.assert_read("inject(a, inject(b, none))", ("inject", "a", ("inject", "b", ("literal", ("none",)))))
        self.assert_read("not(inject(text, add(b, 1)))", call("not", ("inject", "text", call("add", variable("b"), integer(1)))))

    def test_a_reserved_name(self):
        for name in RESERVED_NAMES:
            self.assert_none(f"inject({name}, 1)")

    def test_wrong_forms(self):
        for line in [
            "inject",
            "inject a",
            "inject()",
            "inject(a)",
            "inject(a,)",
            "inject(a, 1",
            "inject(a, 1, 2)",
            "inject(, 1)",
            "inject(a 1)",
            'inject("a", 1)',
            "inject(1, 1)",
            "inject((a), 1)",
            "inject(a, =)",
            "inject(not(a), 1)",
            "inject(a = 1)",
        ]:
            self.assert_none(line)


class Nothing(Reading):
    def test_an_empty_row_and_its_end(self):
        self.assert_none("")
        self.assert_none("a", 1)
        self.assert_none("add(a, b)", 6)
        self.assert_none("a", 2)

    def test_marks(self):
        for line in ["(", ")", ",", "=", "(a)", "= a", ", a", ") a"]:
            self.assert_none(line)

    def test_an_index_within(self):
        signs = split_line("add(a, not(b))")
        self.assertEqual(read_expression(signs, 2), (variable("a"), 3))
        self.assertEqual(read_expression(signs, 4), (call("not", variable("b")), 8))
        for at in [1, 3, 5, 7, 8, 9]:
            with self.assertRaises(BadExpression):
                read_expression(signs, at)


class Bounds(Reading):
    def test_five_deep_and_six(self):
        expression = variable("a")
        for depth in range(6):
            self.assert_read(nested(depth), expression)
            expression = call("not", expression)
        for depth in [6, 7, 20, 5000]:
            self.assert_none(nested(depth))

    def test_inject_counts_as_deep_as_a_call(self):
        inner = ("inject", "c", variable("d"))
        self.assert_read(
            "inject(a, not(inject(b, not(inject(c, d)))))",
            ("inject", "a", call("not", ("inject", "b", call("not", inner)))),
        )
        self.assert_none("inject(a, not(inject(b, not(inject(c, not(d))))))")
        self.assert_none("not(not(not(not(not(inject(a, 1))))))")
        self.assert_none("inject(a, " * 3000 + "1" + ")" * 3000)

    def test_a_map_literal_is_no_call(self):
        text = nested(5, 'map("a", 1)')
        self.assertEqual(read_expression(split_line(text), 0)[1], len(split_line(text)))
        text = many_calls(10).replace("not(a)", "not(map())")
        self.assertEqual(read_expression(split_line(text), 0)[1], len(split_line(text)))

    def test_the_deepest_one_counts_in_any_place(self):
        self.assertEqual(read_expression(split_line(f"add(a, {nested(4)})"), 0)[1], 18)
        self.assert_none(f"add(a, {nested(5)})")
        self.assert_none(f"add({nested(5)}, a)")
        self.assert_none(f"put(a, b, {nested(5)})")

    def test_ten_calls_and_eleven(self):
        for number in range(4, 11):
            text = many_calls(number)
            self.assertEqual(text.count("("), number)
            self.assertEqual(read_expression(split_line(text), 0)[1], len(split_line(text)))
        for number in [11, 12, 13]:
            self.assertEqual(many_calls(number).count("("), number)
            self.assert_none(many_calls(number))

    def test_inject_counts_as_a_call(self):
        for number, fits in [(10, True), (11, False)]:
            text = many_calls(number).replace("not(", "inject(x, ")
            self.assertEqual(text.count("("), number)
            if fits:
                self.assertEqual(read_expression(split_line(text), 0)[1], len(split_line(text)))
            else:
                self.assert_none(text)

    def test_a_part_of_what_is_too_large(self):
        # From within, the signs are those of a smaller expression.
        signs = split_line(nested(6))
        self.assertEqual(read_expression(signs, 2)[1], len(signs) - 1)
        signs = split_line(many_calls(11))
        self.assertEqual(read_expression(signs, 2)[0][:2], ("call", "put"))


SOME = [
    "none",
    "true",
    "0",
    '"a \\"b\\" \\\\"',
    "map()",
    'map("a", 1, "b c", none, "d", "x")',
    "n",
    "not(b)",
    "inject(theme, none)",
    'put(m, concat("a", k), cond(not(b), add(1, n), inject(c, 2)))',
    many_calls(10),
    nested(5),
]


class Writing(unittest.TestCase):
    def test_written_as_read(self):
        for line in SOME + [f"{function}({', '.join(['a'] * arity)})" for function, arity in TABLE]:
            signs = split_line(line)
            expression, end = read_expression(signs, 0)
            self.assertEqual(expression_signs(expression), signs, line)
            self.assertEqual(write_signs(expression_signs(expression)), line)
            self.assertEqual(read_expression(expression_signs(expression), 0), (expression, end))

    def test_signs_one_by_one(self):
        self.assertEqual(
            expression_signs(("inject", "a", call("add", variable("n"), integer(12)))),
            [
                ("name", "inject"),
                ("mark", "("),
                ("name", "a"),
                ("mark", ","),
                ("name", "add"),
                ("mark", "("),
                ("name", "n"),
                ("mark", ","),
                ("number", 12),
                ("mark", ")"),
                ("mark", ")"),
            ],
        )

    def test_beyond_the_bounds_nothing_is_raised(self):
        expression = variable("a")
        for _ in range(7):
            expression = call("not", expression)
        self.assertEqual(write_signs(expression_signs(expression)), nested(7))
        self.assertEqual(variables(expression), ["a"])

    def test_results_are_new_and_arguments_stay(self):
        signs = split_line("add(a, 1)")
        expression, _ = read_expression(signs, 0)
        self.assertEqual(signs, split_line("add(a, 1)"))
        for function in [expression_signs, variables]:
            first = function(expression)
            expected = list(first)
            first.append("more")
            self.assertEqual(function(expression), expected)


class TheVariables(unittest.TestCase):
    def assert_variables(self, line, names):
        self.assertEqual(variables(read_expression(split_line(line), 0)[0]), names)

    def test_none(self):
        for line in ["none", "1", '"a"', 'map("a", 1)', "add(1, 2)", "inject(a, 1)", "not(inject(b, map()))"]:
            self.assert_variables(line, [])

    def test_in_their_order_each_as_often_as_it_occurs(self):
        self.assert_variables("a", ["a"])
        self.assert_variables("add(b, a)", ["b", "a"])
        self.assert_variables("add(b, b)", ["b", "b"])
        self.assert_variables("cond(b, add(a, c), b)", ["b", "a", "c", "b"])
        self.assert_variables('put(put(c, "x", b), concat(a, a), c)', ["c", "b", "a", "a", "c"])

    def test_what_is_injected_is_no_variable(self):
        self.assert_variables("inject(a, b)", ["b"])
        self.assert_variables("inject(a, a)", ["a"])
        self.assert_variables("eq(inject(a, inject(b, c)), d)", ["c", "d"])


class TheReserved(unittest.TestCase):
    def test_in_the_order_of_the_table(self):
        self.assertEqual(RESERVED, tuple(RESERVED_NAMES))


if __name__ == "__main__":
    unittest.main()
