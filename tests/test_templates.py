"""t1 to t4, c2, c7, c13: texts are read as templates, or refused at a line for a reason."""

import unittest

from remoteviews.errors import BadTemplate, ViewError
from remoteviews.expressions import RESERVED, read_expression
from remoteviews.signs import split_line
from remoteviews.templates import parse_template

PERCENT = chr(37)
HEAD = ["layers main, top", "shared stock = 2", 'shared tags = map("a", 1)']
ROOT = ["component page(me)", "  state open = false"]
# Where the first line of the body of the root is, if the text begins with HEAD and ROOT.
BODY = 6


def expression(line):
    return read_expression(split_line(line), 0)[0]


def with_body(*lines):
    """The text of a template with these body lines, of which the first two spaces are left out."""
    return "\n".join(HEAD + ROOT + ["  " + line for line in lines])


class Reading(unittest.TestCase):
    def assert_read(self, lines, template):
        self.assertEqual(parse_template("\n".join(lines)), template)

    def assert_body(self, lines, body):
        """The body of the root is read as these pairs."""
        self.assertEqual(parse_template(with_body(*lines))[2][-1], ("page", ("me",), (("open", expression("false")),), tuple(body)))

    def assert_right(self, *lines):
        """The body of the root may consist of these lines."""
        self.assertEqual(len(parse_template(with_body(*lines))[2][-1][3]), len(lines))

    def assert_refused(self, lines, line, reason):
        with self.assertRaises(BadTemplate, msg=lines) as seen:
            parse_template("\n".join(lines))
        self.assertEqual((seen.exception.line, seen.exception.reason), (line, reason), lines)
        self.assertIsInstance(seen.exception, ViewError)

    def assert_wrong(self, lines, at, reason):
        """A body of these lines is refused, at the one with this index."""
        self.assert_refused(with_body(*lines).split("\n"), BODY + at, reason)


class Heads(Reading):
    def test_the_smallest(self):
        self.assert_read(["layers main", "component page(me)"], (("main",), (), (("page", ("me",), (), ()),)))

    def test_all_parts(self):
        lines = [
            "layers main, top, low",
            "shared stock = 2",
            "shared twice = add(stock, stock)",
            "component row(a, b)",
            "  state n = add(a, stock)",
            "  state m = add(n, b)",
            "  text m",
            "component none()",
            "component page(me)",
            "  use row(1, me)",
        ]
        row = (
            "row",
            ("a", "b"),
            (("n", expression("add(a, stock)")), ("m", expression("add(n, b)"))),
            ((0, ("text", ("variable", "m"))),),
        )
        page = ("page", ("me",), (), ((0, ("use", "row", (expression("1"), ("variable", "me")))),))
        shared = (("stock", expression("2")), ("twice", expression("add(stock, stock)")))
        self.assert_read(lines, (("main", "top", "low"), shared, (row, ("none", (), (), ()), page)))

    def test_other_spaces(self):
        lines = ["layers   main ,top  ", "shared a=add( 1,2 )", "component page ( me )", '  text   "x"  ']
        template = (
            ("main", "top"),
            (("a", expression("add(1, 2)")),),
            (("page", ("me",), (), ((0, ("text", expression('"x"'))),)),),
        )
        self.assert_read(lines, template)

    def test_components_and_layers_may_have_names_of_others(self):
        template = parse_template(
            "layers none, stock\nshared stock = 1\ncomponent stock(x)\n  text x\ncomponent map(stocks)\n  use stock(stock)"
        )
        self.assertEqual(template[0], ("none", "stock"))
        self.assertEqual([component[0] for component in template[2]], ["stock", "map"])

    def test_components_can_have_the_same_variables(self):
        lines = ["layers main", "component a(x)", "  state n = x", "component b(x)", "  state n = x", "  text n"]
        self.assertEqual(len(parse_template("\n".join(lines))[2]), 2)

    def test_bounds(self):
        lines = ["layers a, b, c"]
        lines += [f"shared s{at} = {at}" for at in range(4)]
        for component in range(6):
            parameters = "me" if component == 5 else "p, q, r"
            lines += [f"component c{component}({parameters})"]
            lines += [f"  state t{at} = {at}" for at in range(3)]
        lines += ["  " * level + 'if eq("", "")' for level in range(1, 8)]
        lines += ['  text ""'] * (40 - len(lines))
        template = parse_template("\n".join(lines))
        self.assertEqual((len(template[0]), len(template[1]), len(template[2])), (3, 4, 6))
        self.assertEqual([len(component[1]) for component in template[2]], [3, 3, 3, 3, 3, 1])
        self.assertEqual([len(component[2]) for component in template[2]], [3] * 6)
        self.assertEqual([depth for depth, _ in template[2][-1][3]][:7], [0, 1, 2, 3, 4, 5, 6])

    def test_results_are_new(self):
        text = with_body("text stock")
        self.assertEqual(parse_template(text), parse_template(text))


class Statements(Reading):
    def test_texts_and_elements(self):
        self.assert_body(
            ['text "a"', "element row", "  text stock", "  element text", "    text none", "element row"],
            [
                (0, ("text", expression('"a"'))),
                (0, ("element", "row")),
                (1, ("text", ("variable", "stock"))),
                (1, ("element", "text")),
                (2, ("text", expression("none"))),
                (0, ("element", "row")),
            ],
        )

    def test_attributes_and_handlers(self):
        self.assert_body(
            [
                "element row",
                "  attr none = 1",
                "  attr tone = tags",
                "  on buy(x)",
                "    expect stock",
                "    set stock = sub(stock, 1)",
                "    set open = x",
                "    emit bought(x)",
                "  on tone(tone)",
                "  text stock",
            ],
            [
                (0, ("element", "row")),
                (1, ("attr", "none", expression("1"))),
                (1, ("attr", "tone", ("variable", "tags"))),
                (1, ("on", "buy", "x")),
                (2, ("expect", ("variable", "stock"))),
                (2, ("set", "stock", expression("sub(stock, 1)"))),
                (2, ("set", "open", ("variable", "x"))),
                (2, ("emit", "bought", ("variable", "x"))),
                (1, ("on", "tone", "tone")),
                (1, ("text", ("variable", "stock"))),
            ],
        )

    def test_conditions(self):
        self.assert_body(
            ["if open", "  text 1", "else", "  text 2", "if open", "if open", "else"],
            [
                (0, ("if", ("variable", "open"))),
                (1, ("text", expression("1"))),
                (0, ("else",)),
                (1, ("text", expression("2"))),
                (0, ("if", ("variable", "open"))),
                (0, ("if", ("variable", "open"))),
                (0, ("else",)),
            ],
        )

    def test_repetitions(self):
        self.assert_body(
            ["for k v in tags", "  text concat(k, v)", "for k v in reverse(tags) offset 0 limit stock", "  text k"],
            [
                (0, ("for", "k", "v", ("variable", "tags"), None, None)),
                (1, ("text", expression("concat(k, v)"))),
                (0, ("for", "k", "v", expression("reverse(tags)"), expression("0"), ("variable", "stock"))),
                (1, ("text", ("variable", "k"))),
            ],
        )

    def test_variables_with_the_words_of_repetitions(self):
        lines = ["layers main", "shared in = map()", "shared offset = map()", "shared limit = 1", "component page(me)"]
        for line, statement in [
            ("for k v in in", ("for", "k", "v", ("variable", "in"), None, None)),
            ("for k v in offset", ("for", "k", "v", ("variable", "offset"), None, None)),
            ("for k v in offset offset limit limit limit", ("for", "k", "v", *map(expression, ["offset", "limit", "limit"]))),
            ("for for if in in offset 1 limit 2", ("for", "for", "if", *map(expression, ["in", "1", "2"]))),
        ]:
            self.assertEqual(parse_template("\n".join(lines + ["  " + line]))[2][0][3], ((0, statement),))

    def test_uses_and_provided_values(self):
        lines = ["layers main", "component none()", "component two(a, b)", "component page(me)"]
        lines += ["  use none()", "  provide me = me", "    use two(inject(me, 0), map())"]
        body = (
            (0, ("use", "none", ())),
            (0, ("provide", "me", ("variable", "me"))),
            (1, ("use", "two", (expression("inject(me, 0)"), expression("map()")))),
        )
        self.assertEqual(parse_template("\n".join(lines))[2][-1][3], body)

    def test_errors_waiting_and_portals(self):
        self.assert_body(
            ["try", "  text 1", "catch e", "  text e", "suspense", "  portal top", "    text 2", "fallback", "  portal main"],
            [
                (0, ("try",)),
                (1, ("text", expression("1"))),
                (0, ("catch", "e")),
                (1, ("text", ("variable", "e"))),
                (0, ("suspense",)),
                (1, ("portal", "top")),
                (2, ("text", expression("2"))),
                (0, ("fallback",)),
                (1, ("portal", "main")),
            ],
        )


# What stands behind the first word, in forms that are none; the word alone is tried, too.
ONE_NAME = ["1", '"a"', "(a)", "a b", "a = 1", "a,", "a1 1", "none()", "="]
ONE_EXPRESSION = ["=", "a b", "a,", "(a)", "= a", "not", "add(a)", "foo(1)", "1000000", "a = 1", '"a" 1', r'"\n"', "map"]
BINDING = ["a", "a =", "= 1", "a 1", "a == 1", "a = 1 2", "a = b = 1", '"a" = 1', "1 = 1", "a = not", "a(b) = 1", "a = foo(1)"]
NOTHING = ["a", "1", '""', "(", "()", "=", ","]
LISTS_OF_NAMES = ["a", "a b", "a(", "a)", "a(b", "a(b,)", "a(, b)", "a(b c)", 'a("b")', "a(1)", "a(b) c", "(a)", "a((b))", "a()()", '"a"()', "a() b", "a() 1"]
MALFORMED = {
    "layers": ["", "a b", "a,", ", a", "a,, b", "1", '"a"', "a, 1", "(a)", "a = 1", "a, b c"],
    "shared": BINDING + [""],
    "component": LISTS_OF_NAMES + ["", "a(not(b))", "a(b = 1)"],
    "state": BINDING + [""],
    "text": ONE_EXPRESSION + [""],
    "element": ONE_NAME + [""],
    "attr": BINDING + [""],
    "on": LISTS_OF_NAMES + ["", "a()", "a(b, c)"],
    "expect": ONE_EXPRESSION + [""],
    "set": BINDING + [""],
    "emit": ["", "a", "a()", "a(b", "a(b, c)", "a b", "a(b) c", "(b)", '"a"(b)', "a(foo(1))", "a = b", "a(=)"],
    "if": ONE_EXPRESSION + [""],
    "else": NOTHING + ["if a"],
    "for": [
        "",
        "k",
        "k v",
        "k v in",
        "k in m",
        "k, v in m",
        "k v m",
        "k v of m",
        "k v = m",
        "k v in m m",
        "k v in m offset",
        "k v in m offset 1",
        "k v in m limit 1",
        "k v in m offset 1 limit",
        "k v in m limit 1 offset 1",
        "k v in m offset 1 limit 2 3",
        "k v in m offset 1, limit 2",
        "k v in m offset = 1 limit = 2",
        "k v in m 1 limit 2",
        "k v w in m",
        '"k" v in m',
        "k 1 in m",
        'k v "in" m',
        "(k v) in m",
        "k v in foo(m)",
        "k v in m offset foo(1) limit 1",
    ],
    "use": ["", "a", "a(", "a(b", "a(b,)", "a(, b)", "a(b c)", "a(b) c", "a(=)", "(b)", '"a"()', "a(foo(1))", "a b", "a()()", "a() b", "a() 1"],
    "provide": BINDING + [""],
    "try": NOTHING,
    "catch": ONE_NAME + [""],
    "suspense": NOTHING,
    "fallback": NOTHING,
    "portal": ONE_NAME + [""],
}
WORDS = list(MALFORMED)
BODY_WORDS = WORDS[4:]


class LineByLine(Reading):
    """The first two stages."""

    def test_too_many_lines(self):
        lines = HEAD + ROOT + ["  text 1"] * 35
        self.assertEqual(len(lines), 40)
        parse_template("\n".join(lines))
        for more in [["  text 1"], [""], ["?"], ["  text 1"] * 100]:
            self.assert_refused(lines + more, 41, "too many lines")
        self.assert_refused(["?"] * 41, 41, "too many lines")

    def test_unexpected_characters(self):
        for line, offset in [("text ?", 5), ("  text A", 7), ('    text "a', 9), ("?", 0), ("text 1 01", 7), ("text\t1", 4)]:
            self.assert_refused([line], 1, f"unexpected character at {offset}")
            self.assert_refused(HEAD + ROOT + [line], BODY, f"unexpected character at {offset}")
        self.assert_refused(["layers main", f'shared a = "{PERCENT}"'], 2, "unexpected character at 11")
        self.assert_refused(["layers main\r", "component page(me)\r"], 1, "unexpected character at 11")

    def test_unexpected_characters_come_first_in_a_line(self):
        for line, offset in [(" ?", 1), ("foo ?", 4), ("   text = ?", 10), (" 1 ?", 3)]:
            self.assert_refused([line], 1, f"unexpected character at {offset}")

    def test_empty_lines(self):
        for line in ["", " ", "  ", "   "]:
            self.assert_refused([line], 1, "empty line")
            self.assert_refused(["layers main", line, "component page(me)"], 2, "empty line")
            self.assert_refused(["layers main", "component page(me)", line], 3, "empty line")

    def test_unknown_statements(self):
        for line in ["foo", "in", "offset 1", "limit", "map()", "none", '"text" 1', "1", "= 1", "(text 1)", "texts 1", " foo"]:
            self.assert_refused([line], 1, "unknown statement")
            self.assert_refused(HEAD + ROOT + ["  " + line], BODY, "unknown statement")

    def test_malformed_statements(self):
        self.assertEqual(len(WORDS), 21)
        for word in WORDS:
            for rest in MALFORMED[word]:
                for spaces in ["", " ", "  "]:
                    line = spaces + word + " " + rest
                    self.assert_refused([line], 1, f"{word} statement is malformed")

    def test_indentation(self):
        for spaces in [1, 3, 5, 15]:
            self.assert_refused([" " * spaces + "layers main"], 1, "indentation must be a multiple of 2 spaces")
            self.assert_refused(HEAD + ROOT + [" " * spaces + "text 1"], BODY, "indentation must be a multiple of 2 spaces")

    def test_the_first_line_counts(self):
        faults = [
            ("?", "unexpected character at 0"),
            ("", "empty line"),
            ("foo", "unknown statement"),
            ("text", "text statement is malformed"),
            (" text 1", "indentation must be a multiple of 2 spaces"),
        ]
        for line, reason in faults:
            for other, _ in faults:
                self.assert_refused(["component a(b)", line, other], 2, reason)

    def test_ahead_of_the_order(self):
        for line, reason in [
            ("?", "unexpected character at 0"),
            ("", "empty line"),
            ("foo", "unknown statement"),
            ("text", "text statement is malformed"),
            (" text 1", "indentation must be a multiple of 2 spaces"),
        ]:
            self.assert_refused(["text 1", "layers a, a", line], 3, reason)


class Order(Reading):
    """The third stage."""

    def test_the_first_line(self):
        for line in ["shared a = 1", "component page(me)", "state a = 1", "text 1", "  layers main", "  text 1"]:
            self.assert_refused([line], 1, "not allowed here")
            self.assert_refused([line, "layers main", "component page(me)"], 1, "not allowed here")

    def test_ahead_of_the_components(self):
        for line in ["layers main", "state a = 1", "  state a = 1", "text 1", "  text 1", "  shared a = 1", "  component a()"]:
            self.assert_refused(["layers main", line, "component page(me)"], 2, "not allowed here")
            self.assert_refused(["layers main", "shared b = 1", line, "component page(me)"], 3, "not allowed here")

    def test_behind_a_component(self):
        wrong = ["layers main", "shared a = 1", "  layers main", "  shared a = 1", "  component b()", "text 1", "element a"]
        wrong += ["state a = 1", "    state a = 1"]
        for line in wrong:
            self.assert_refused(["layers main", "component page(me)", line], 3, "not allowed here")
            self.assert_refused(["layers main", "component page(me)", "  state b = 1", line], 4, "not allowed here")
            self.assert_refused(["layers main", "component page(me)", "  element b", line], 4, "not allowed here")

    def test_states_stand_ahead_of_the_body(self):
        lines = ["layers main", "component page(me)", "  state a = 1", "  text a", "  state b = 1"]
        self.assert_refused(lines, 5, "not allowed here")
        self.assert_refused(lines[:4] + ["    state b = 1"], 5, "not allowed here")
        lines = ["layers main", "component a()", "  text 1", "component page(me)", "  state b = 1", "  text b"]
        self.assertEqual(len(parse_template("\n".join(lines))[2]), 2)

    def test_ahead_of_the_last_stage(self):
        lines = ["layers a, a, a, a", "shared none = u", "component page()", "    text u"]
        self.assert_refused(lines + ["shared a = 1"], 5, "not allowed here")
        self.assert_refused(lines, 1, "too many layers")


class LastStageOfHeads(Reading):
    def test_layers(self):
        root = ["component page(me)"]
        self.assert_refused(["layers a, b, c, d"] + root, 1, "too many layers")
        self.assert_refused(["layers a, a, a, a"] + root, 1, "too many layers")
        self.assert_refused(["layers a, a"] + root, 1, "a is already defined")
        self.assert_refused(["layers a, b, a"] + root, 1, "a is already defined")
        self.assert_refused(["layers b, a, a"] + root, 1, "a is already defined")
        self.assert_refused(["layers b, b, b"] + root, 1, "b is already defined")

    def test_shared(self):
        four = ["layers main"] + [f"shared s{at} = {at}" for at in range(4)]
        for line in ["shared a = 1", "shared none = u", "shared s0 = u"]:
            self.assert_refused(four + [line, "component page(me)"], 6, "too many shared variables")
        for name in RESERVED:
            self.assert_refused(["layers main", f"shared {name} = u"], 2, f"{name} is a reserved word")
        self.assert_refused(["layers main", "shared a = 1", "shared a = u"], 3, "a is already defined")
        self.assert_refused(["layers main", "shared a = a"], 2, "undefined name: a")
        self.assert_refused(["layers main", "shared a = b", "shared b = 1"], 2, "undefined name: b")
        self.assert_refused(["layers main", "shared a = add(sub(0, 1), add(v, u))"], 2, "undefined name: v")
        self.assert_refused(["layers main", "shared a = 1", "shared b = inject(a, inject(a, c))"], 3, "undefined name: c")

    def test_initial_values(self):
        for line in [
            "sub(0, 1)",
            "not(1)",
            'get(map(), "a")',
            'resource("x")',
            'and(true, resource("x"))',
            "sub(a, 4)",
            'inject(a, resource("x"))',
        ]:
            self.assert_refused(["layers main", "shared a = 3", f"shared b = {line}"], 3, "b has no initial value")
        right = ['and(false, resource("x"))', "inject(a, 2)", "sub(a, 3)", "map()", 'cond(lt(a, 4), 1, resource("x"))']
        for line in right:
            parse_template("\n".join(["layers main", "shared a = 3", f"shared b = {line}", "component page(me)"]))

    def test_initial_values_with_those_ahead(self):
        lines = ["layers main", "shared a = 3", "shared b = sub(a, 1)", "shared c = sub(b, 2)", "shared d = sub(c, 1)"]
        self.assert_refused(lines + ["component page(me)"], 5, "d has no initial value")

    def test_components(self):
        six = ["layers main"] + [f"component c{at}(me)" for at in range(6)]
        parse_template("\n".join(six))
        self.assert_refused(six + ["component c0(a, b, c, d)"], 8, "too many components")
        self.assert_refused(["layers main", "component a(b)", "component a(b, c, d, e)"], 3, "a is already defined")
        for names in ["a, b, c, d", "a, a, a, a", "none, b, c, d"]:
            self.assert_refused(["layers main", f"component page({names})"], 2, "too many parameters")
            self.assert_refused(["layers main", f"component b({names})", "component page(me)"], 2, "too many parameters")

    def test_parameters(self):
        last = ["component page(me)"]
        for name in RESERVED:
            self.assert_refused(["layers main", f"component a({name})"], 2, f"{name} is a reserved word")
            self.assert_refused(["layers main", f"component a(b, {name})"] + last, 2, f"{name} is a reserved word")
        head = ["layers main", "shared a = 1"]
        self.assert_refused(head + ["component b(a)"] + last, 3, "a is already defined")
        self.assert_refused(head + ["component b(c, a)"] + last, 3, "a is already defined")
        self.assert_refused(head + ["component b(c, c)"] + last, 3, "c is already defined")
        self.assert_refused(head + ["component b(c, d, c)"] + last, 3, "c is already defined")
        self.assert_refused(head + ["component b(a, none)"] + last, 3, "a is already defined")
        self.assert_refused(head + ["component b(none, a)"] + last, 3, "none is a reserved word")

    def test_the_root(self):
        reason = "root component must have one parameter"
        self.assert_refused(["layers main", "component page()"], 2, reason)
        self.assert_refused(["layers main", "component page(a, b)"], 2, reason)
        self.assert_refused(["layers main", "component a(b)", "component page(a, b, c)", "  text u"], 3, reason)
        self.assert_refused(["layers main", "component page(a, a)"], 2, "a is already defined")
        self.assert_refused(["layers main", "component a(b)", "  text u", "component page()"], 3, "undefined name: u")
        parse_template("layers main\ncomponent a()\ncomponent b(c, d)\ncomponent page(me)")

    def test_states(self):
        head = ["layers main", "shared s = 1", "component page(me)"]
        three = head + ["  state a = 1", "  state b = 1", "  state c = 1"]
        for line in ["  state d = 1", "  state none = u", "  state a = u"]:
            self.assert_refused(three + [line], 7, "too many state variables")
        for name in RESERVED:
            self.assert_refused(head + [f"  state {name} = u"], 4, f"{name} is a reserved word")
        self.assert_refused(head + ["  state s = u"], 4, "s is already defined")
        self.assert_refused(head + ["  state me = u"], 4, "me is already defined")
        self.assert_refused(head + ["  state a = 1", "  state a = u"], 5, "a is already defined")
        self.assert_refused(head + ["  state a = a"], 4, "undefined name: a")
        self.assert_refused(head + ["  state a = b", "  state b = 1"], 4, "undefined name: b")
        self.assert_refused(head + ["  state a = add(s, add(v, u))"], 4, "undefined name: v")
        parse_template("\n".join(head + ["  state a = add(s, me)", "  state b = add(a, sub(0, 1))"]))

    def test_states_of_other_components_are_out_of_reach(self):
        lines = ["layers main", "component a(p)", "  state n = p", "component page(me)"]
        self.assert_refused(lines + ["  state b = n"], 5, "undefined name: n")
        self.assert_refused(lines + ["  state b = p"], 5, "undefined name: p")
        parse_template("\n".join(lines + ["  state n = 1", "  state p = n"]))

    def test_no_component(self):
        self.assert_refused(["layers main"], 1, "component expected after this line")
        self.assert_refused(["layers main", "shared a = 1", "shared b = a"], 3, "component expected after this line")
        self.assert_refused(["layers main", "shared a = b"], 2, "undefined name: b")

    def test_the_first_line_counts(self):
        lines = ["layers a, a", "shared a = b", "component page()", "  state none = 1", "  text u"]
        right = ["layers a", "shared a = 1", "component page(me)", "  state n = 1", "  text n"]
        reasons = [
            "a is already defined",
            "undefined name: b",
            "root component must have one parameter",
            "none is a reserved word",
            "undefined name: u",
        ]
        for at, reason in enumerate(reasons):
            self.assert_refused(right[:at] + lines[at:], at + 1, reason)


# For each statement with a block the lines that lead into it, then the depth of a line directly in it.
LEADING = {
    "": ([], 0),
    "element": (["element a"], 1),
    "if": (["if open"], 1),
    "else": (["if open", "else"], 1),
    "for": (["for k v in tags"], 1),
    "provide": (["provide a = 1"], 1),
    "try": (["try"], 1),
    "catch": (["try", "catch e"], 1),
    "suspense": (["suspense"], 1),
    "fallback": (["suspense", "fallback"], 1),
    "portal": (["portal main"], 1),
    "on": (["element a", "  on b(x)"], 2),
    "text": (["text 1"], 1),
    "attr": (["element a", "  attr b = 1"], 2),
    "expect": (["element a", "  on b(x)", "    expect 1"], 3),
    "set": (["element a", "  on b(x)", "    set stock = 1"], 3),
    "emit": (["element a", "  on b(x)", "    emit c(1)"], 3),
}
# The statements that stand in any block, and what must stand directly ahead of them.
ANYWHERE = {
    "text 1": [],
    "element c": [],
    "if open": [],
    "else": ["if open"],
    "for q w in tags": [],
    "provide c = 1": [],
    "try": [],
    "catch q": ["try"],
    "suspense": [],
    "fallback": ["suspense"],
    "portal top": [],
}
BLOCKS = ["", "element", "if", "else", "for", "provide", "try", "catch", "suspense", "fallback", "portal"]
BLOCKLESS = ["text", "attr", "expect", "set", "emit"]
# What stands only in one block.
BOUND = {"attr c = 1": "element", "on c(q)": "element", "expect 1": "on", "set open = 1": "on", "emit d(1)": "on"}


def inside(block, *lines):
    """The lines that lead into a block, and others directly in it; the index of the last one."""
    leading, depth = LEADING[block]
    rows = leading + ["  " * depth + line for line in lines]
    return rows, len(rows) - 1


class Places(Reading):
    """t2: where each statement may stand."""

    def test_in_any_block(self):
        for block in BLOCKS:
            for line, ahead in ANYWHERE.items():
                rows, _ = inside(block, *ahead, line)
                self.assert_right(*rows)
                rows, at = inside(block, "text 1", line)
                if ahead:
                    self.assert_wrong(rows, at, "not allowed here")
                else:
                    self.assert_right(*rows)

    def test_not_in_handlers(self):
        for line in ANYWHERE:
            rows, at = inside("on", line)
            self.assert_wrong(rows, at, "not allowed here")

    def test_use(self):
        for block in list(LEADING):
            rows, _ = inside(block, "use a()")
            lines = HEAD + ["component a()"] + ROOT + ["  " + line for line in rows]
            if block in BLOCKS:
                parse_template("\n".join(lines))
                self.assert_refused(lines + [lines[-1].replace("use a()", "  text 1")], len(lines) + 1, "not allowed here")
            else:
                self.assert_refused(lines, len(lines), "not allowed here")

    def test_no_blocks(self):
        for block in BLOCKLESS:
            for line in list(ANYWHERE) + list(BOUND):
                rows, at = inside(block, line)
                self.assert_wrong(rows, at, "not allowed here")

    def test_only_in_one_block(self):
        for line, home in BOUND.items():
            for block in LEADING:
                rows, at = inside(block, line)
                if block == home:
                    self.assert_right(*rows)
                else:
                    self.assert_wrong(rows, at, "not allowed here")

    def test_two_levels_at_once(self):
        for block in LEADING:
            leading, depth = LEADING[block]
            self.assert_wrong(leading + ["  " * (depth + 1) + "text 1"], len(leading), "not allowed here")
        self.assert_wrong(["element a", "  element b", "element c", "    text 1"], 3, "not allowed here")

    def test_the_first_line_of_a_body_has_depth_0(self):
        self.assert_wrong(["  text 1"], 0, "not allowed here")
        self.assert_refused(["layers main", "component a()", "  element b", "component page(me)", "    text 1"], 5, "not allowed here")
        self.assert_refused(["layers main", "component page(me)", "    text 1"], 3, "not allowed here")

    def test_back_to_any_line_around(self):
        self.assert_right("element a", "  element b", "    element c", "      text 1", "    text 2", "  text 3", "text 4")
        self.assert_right("element a", "  element b", "    element c", "      text 1", "text 4", "element a", "  text 1")

    def test_nested_too_deeply(self):
        rows = ["  " * depth + "element a" for depth in range(7)]
        self.assert_right(*rows)
        for line in ["text u", "else", "set none = 1", "attr a = 1"]:
            self.assert_wrong(rows + ["  " * 7 + line], 7, "nested too deeply")
            self.assert_wrong(["text 1", "  " * 7 + line], 1, "nested too deeply")
            self.assert_wrong(["  " * 9 + line], 0, "nested too deeply")
            self.assert_wrong(["  " * 6 + line], 0, "not allowed here")

    def test_attributes_stand_ahead_of_all_else(self):
        rows = ["element a", "  attr b = 1", "  attr c = 1", "  on d(x)", "  text 1"]
        self.assert_right(*rows)
        for ahead in list(ANYWHERE) + ["on d(x)"]:
            if ahead not in ("else", "catch q", "fallback"):
                self.assert_wrong(["element a", "  " + ahead, "  attr b = 1"], 2, "not allowed here")
        self.assert_wrong(rows + ["  attr d = 1"], 5, "not allowed here")
        self.assert_wrong(["element a", "  on b(x)", "    expect 1", "  attr c = 1"], 3, "not allowed here")

    def test_handlers_stand_ahead_of_all_else_but_attributes(self):
        self.assert_right("element a", "  attr b = 1", "  on c(x)", "    set stock = x", "  on d(x)", "    set stock = x")
        for ahead in ANYWHERE:
            if ahead not in ("else", "catch q", "fallback"):
                self.assert_wrong(["element a", "  " + ahead, "  on b(x)"], 2, "not allowed here")
        self.assert_wrong(["element a", "  on b(x)", "  element c", "  on d(x)"], 3, "not allowed here")

    def test_attributes_and_handlers_of_inner_elements(self):
        self.assert_right("element a", "  element b", "    attr c = 1", "    on d(x)", "  element b", "    attr c = 1")
        self.assert_right("element a", "element b", "  attr c = 1")

    def test_expected_values_stand_first(self):
        self.assert_right("element a", "  on b(x)", "    expect 1", "  on c(x)", "    expect 1", "    emit d(1)")
        for ahead in ["expect 1", "set stock = 1", "emit c(1)"]:
            self.assert_wrong(["element a", "  on b(x)", "    " + ahead, "    expect 1"], 3, "not allowed here")

    def test_assignments_stand_ahead_of_emit(self):
        self.assert_right("element a", "  on b(x)", "    expect 1", "    set stock = 1", "    set open = 1", "    emit c(1)")
        self.assert_right("element a", "  on b(x)", "    set stock = 1", "    set open = 1")
        self.assert_wrong(["element a", "  on b(x)", "    emit c(1)", "    set stock = 1"], 3, "not allowed here")

    def test_emit_stands_last(self):
        self.assert_right("element a", "  on b(x)", "    emit c(1)", "  on c(x)", "    emit c(1)")
        self.assert_wrong(["element a", "  on b(x)", "    emit c(1)", "    emit d(1)"], 3, "not allowed here")

    def test_siblings_ahead(self):
        for line, partner in [("else", "if open"), ("catch e", "try"), ("fallback", "suspense")]:
            self.assert_wrong([line], 0, "not allowed here")
            self.assert_wrong([partner, line, line], 2, "not allowed here")
            self.assert_wrong([partner, "text 1", line], 2, "not allowed here")
            self.assert_wrong([partner, "  " + line], 1, "not allowed here")
            self.assert_wrong(["element a", "  " + partner, line], 2, "not allowed here")
            self.assert_wrong([partner, "element a", "  " + line], 2, "not allowed here")
            self.assert_wrong(["element a", "  " + partner, "element b", "  " + line], 3, "not allowed here")
            self.assert_right(partner, line, partner, line)
            self.assert_right(partner, "  text 1", "  element a", "    text 1", line, "  text 1")
            self.assert_right(partner, "  " + partner, "  " + line.replace(" e", " f"), line)
        for line, other in [("else", "try"), ("catch e", "if open"), ("fallback", "try"), ("catch e", "suspense")]:
            self.assert_wrong([other, line], 1, "not allowed here")

    def test_a_sibling_in_another_component(self):
        lines = ["layers main", "component a()", "  try", "component page(me)", "  catch e"]
        self.assert_refused(lines, 5, "not allowed here")


# Lines with which a name is brought, and where the line stands that may use it.
BRINGING = [
    (["for x y in tags"], 1),
    (["for y x in tags"], 1),
    (["try", "catch x"], 1),
]


class Reach(Reading):
    """t3: variables in reach."""

    def test_everywhere(self):
        for name in ["stock", "tags", "me", "open"]:
            self.assert_right(f"text {name}")
            self.assert_right("element a", f"  attr b = {name}", "  on c(x)", f"    expect {name}", f"    emit d({name})")
            self.assert_right("element a", "  element b", f"    text {name}")

    def test_what_enclosing_lines_bring(self):
        for rows, depth in BRINGING:
            self.assert_right(*rows, "  " * depth + "text x")
            self.assert_right(*rows, "  " * depth + "element a", "  " * (depth + 1) + "text x")
            self.assert_wrong([*rows, "text x"], len(rows), "undefined name: x")
            self.assert_wrong([*rows, "  " * depth + "text 1", "text x"], len(rows) + 1, "undefined name: x")

    def test_not_in_the_line_itself(self):
        self.assert_wrong(["for x y in x"], 0, "undefined name: x")
        self.assert_wrong(["for x y in tags offset 0 limit y"], 0, "undefined name: y")

    def test_the_words_of_enclosing_lines_are_no_variables(self):
        self.assert_wrong(["for x y in tags", "  text for"], 1, "undefined name: for")
        self.assert_wrong(["try", "catch e", "  text catch"], 2, "undefined name: catch")
        self.assert_wrong(["element a", "  on b(x)", "    set stock = b"], 2, "undefined name: b")
        self.assert_right("for x y in tags", "  for for in in tags", "    text concat(for, in)")

    def test_names_of_a_catch_are_not_in_its_try(self):
        self.assert_wrong(["try", "  text e", "catch e"], 1, "undefined name: e")

    def test_names_of_a_handler(self):
        self.assert_right("element a", "  on b(x)", "    set stock = x", "    emit c(x)")
        self.assert_wrong(["element a", "  on b(x)", "    expect x"], 2, "undefined name: x")
        self.assert_wrong(["element a", "  on b(x)", "  text x"], 2, "undefined name: x")
        self.assert_wrong(["element a", "  on b(x)", "  on c(y)", "    set stock = x"], 3, "undefined name: x")
        self.assert_right("for x y in tags", "  element a", "    on b(z)", "      expect concat(x, y)", "      set stock = z")

    def test_provided_values_are_no_variables(self):
        self.assert_wrong(["provide x = 1", "  text x"], 1, "undefined name: x")
        self.assert_right("provide x = 1", "  text inject(x, 2)")
        self.assert_right("provide stock = 1", "  provide stock = 1")

    def test_not_in_components_that_are_used(self):
        lines = ["layers main", "component a()", "  text me", "component page(me)", "  use a()"]
        self.assert_refused(lines, 3, "undefined name: me")

    def test_each_expression(self):
        for rows in [
            ["text u"],
            ["if u"],
            ["for k v in u"],
            ["for k v in tags offset u limit 1"],
            ["for k v in tags offset 1 limit u"],
            ["provide a = u"],
            ["text inject(u, u)"],
            ["element a", "  attr b = u"],
            ["element a", "  on b(x)", "    expect u"],
            ["element a", "  on b(x)", "    set stock = u"],
            ["element a", "  on b(x)", "    emit c(u)"],
        ]:
            self.assert_wrong(rows, len(rows) - 1, "undefined name: u")

    def test_the_first_one_from_the_left(self):
        self.assert_wrong(["text add(stock, add(v, u))"], 0, "undefined name: v")
        self.assert_wrong(["for k v in take(tags, a) offset b limit c"], 0, "undefined name: a")
        self.assert_wrong(["for k v in tags offset b limit c"], 0, "undefined name: b")
        lines = ["layers main", "component two(a, b)", "component page(me)", "  use two(add(me, b), a)"]
        self.assert_refused(lines, 4, "undefined name: b")


class Names(Reading):
    """t4: names that are reserved, defined already, or not known."""

    def test_attributes_of_an_element(self):
        self.assert_wrong(["element a", "  attr b = 1", "  attr b = u"], 2, "b is already defined")
        self.assert_wrong(["element a", "  attr b = 1", "  attr c = 1", "  attr b = 1"], 3, "b is already defined")
        self.assert_right("element a", "  attr b = 1", "element a", "  attr b = 1", "  element a", "    attr b = 1")
        self.assert_right("element a", "  attr stock = 1", "  attr none = 1", "  on stock(x)", "  on none(x)")

    def test_handlers_of_an_element(self):
        self.assert_wrong(["element a", "  on b(x)", "  on b(none)"], 2, "b is already defined")
        self.assert_wrong(["element a", "  on b(x)", "  on c(x)", "  on b(x)"], 3, "b is already defined")
        self.assert_right("element a", "  attr b = 1", "  on b(b)", "element a", "  on b(b)")

    def test_the_variable_of_a_handler(self):
        for name in RESERVED:
            self.assert_wrong(["element a", f"  on b({name})"], 1, f"{name} is a reserved word")
        for name in ["stock", "me", "open"]:
            self.assert_wrong(["element a", f"  on b({name})"], 1, f"{name} is already defined")
        self.assert_wrong(["for k v in tags", "  element a", "    on b(v)"], 2, "v is already defined")
        self.assert_wrong(["try", "catch e", "  element a", "    on b(e)"], 3, "e is already defined")

    def test_assignments(self):
        def rows(*lines):
            return ["for k v in tags", "  element a", "    on b(x)"] + ["      " + line for line in lines]

        self.assert_right(*rows("set stock = 1", "set tags = 1", "set open = 1"))
        for name in ["me", "x", "k", "v", "u", "none", "page", "main"]:
            self.assert_wrong(rows(f"set {name} = u"), 3, f"{name} cannot be assigned")
        self.assert_wrong(rows("set stock = 1", "set stock = u"), 4, "stock is already defined")
        self.assert_wrong(rows("set open = 1", "set stock = 1", "set open = 1"), 5, "open is already defined")
        self.assert_wrong(rows("set stock = 1", "set open = u"), 4, "undefined name: u")
        self.assert_right("element a", "  on b(x)", "    set stock = 1", "  on c(x)", "    set stock = 1")

    def test_assignments_to_states_of_others(self):
        lines = ["layers main", "component a()", "  state n = 1", "component page(me)", "  element a", "    on b(x)"]
        self.assert_refused(lines + ["      set n = 1"], 7, "n cannot be assigned")

    def test_the_variables_of_a_repetition(self):
        for name in RESERVED:
            self.assert_wrong([f"for {name} none in u"], 0, f"{name} is a reserved word")
            self.assert_wrong([f"for k {name} in u"], 0, f"{name} is a reserved word")
        for name in ["stock", "me", "open"]:
            self.assert_wrong([f"for {name} none in u"], 0, f"{name} is already defined")
            self.assert_wrong([f"for k {name} in u"], 0, f"{name} is already defined")
        self.assert_wrong(["for k k in u"], 0, "k is already defined")
        self.assert_wrong(["for k v in tags", "  for v k in u"], 1, "v is already defined")
        self.assert_wrong(["for k v in tags", "  for a k in u"], 1, "k is already defined")
        self.assert_wrong(["for stock stock in tags"], 0, "stock is already defined")
        self.assert_right("for k v in tags", "  text k", "for k v in tags", "  text v")

    def test_the_variable_of_a_catch(self):
        for name in RESERVED:
            self.assert_wrong(["try", f"catch {name}"], 1, f"{name} is a reserved word")
        for name in ["stock", "me", "open"]:
            self.assert_wrong(["try", f"catch {name}"], 1, f"{name} is already defined")
        self.assert_wrong(["for k v in tags", "  try", "  catch v"], 2, "v is already defined")
        self.assert_wrong(["try", "catch e", "  try", "  catch e"], 3, "e is already defined")
        self.assert_right("try", "  try", "  catch e", "catch e")

    def test_provided_names(self):
        for name in RESERVED:
            self.assert_wrong([f"provide {name} = u"], 0, f"{name} is a reserved word")
        self.assert_right("provide stock = 1", "  provide me = 1")

    def test_components_that_are_used(self):
        head = ["layers main", "component none()", "component two(a, b)", "  use none()", "component page(me)"]
        for line, reason in [
            ("use one(u)", "unknown component: one"),
            ("use none(u)", "none expects a different number of arguments"),
            ("use two()", "two expects a different number of arguments"),
            ("use two(u)", "two expects a different number of arguments"),
            ("use two(me, me, me)", "two expects a different number of arguments"),
            ("use two(me, u)", "undefined name: u"),
        ]:
            self.assert_refused(head + ["  " + line], 6, reason)
        parse_template("\n".join(head + ["  use two(me, me)"]))

    def test_only_components_ahead_are_used(self):
        lines = ["layers main", "component a(x)", "  use b(x)", "component b(x)", "component page(me)"]
        self.assert_refused(lines, 3, "unknown component: b")
        self.assert_refused(["layers main", "component a(x)", "  use a(x)", "component page(me)"], 3, "unknown component: a")
        self.assert_refused(["layers main", "component page(me)", "  use page(me)"], 3, "unknown component: page")

    def test_layers_of_portals(self):
        self.assert_right("portal main", "  portal top")
        for name in ["low", "page", "stock", "none"]:
            self.assert_wrong([f"portal {name}"], 0, f"unknown layer: {name}")

    def test_places_come_ahead_of_names(self):
        for rows, at in [
            (["attr none = u"], 0),
            (["on none(none)"], 0),
            (["set none = u"], 0),
            (["element a", "  attr b = 1", "  text 1", "  attr b = u"], 3),
            (["element a", "  on b(x)", "    emit c(1)", "    set me = u"], 3),
            (["catch none"], 0),
            (["text 1", "  use foo(u)"], 1),
        ]:
            self.assert_wrong(rows, at, "not allowed here")


if __name__ == "__main__":
    unittest.main()
