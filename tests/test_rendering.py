"""r1, r2, r4, r5, r9: what the lines of a template draw."""

import unittest

from pages import EIGHT, FALSE, NONE, TRUE, contents, drawn, entries, page, step, whole, words

# Each wrong kind, written in a template.
NO_SCALARS = ["map()", 'map("a", 1)']
NO_BOOLEANS = ["none", "0", "1", '""', '"true"', "map()"]
NO_MAPS = ["none", "true", "0", '"a"']
NO_INTEGERS = ["none", "true", '"1"', "map()"]
# What fails or waits, and what a render tells then.
PROBLEMS = [
    ("sub(1, 2)", ("error", "integer underflow")),
    ("add(999999, 1)", ("error", "integer overflow")),
    ('resource("x")', ("waits", "x")),
    ('resource("")', ("error", "invalid resource name")),
]


class Rendering(unittest.TestCase):
    def assert_words(self, expected, *lines, told=None, **more):
        self.assertEqual(contents(drawn(page(*lines, **more), **(told or {}))), expected, lines)

    def assert_told(self, expected, *lines, told=None, **more):
        self.assertEqual(drawn(page(*lines, **more), **(told or {})), expected, lines)


class Whole(Rendering):
    def test_nothing(self):
        self.assertEqual(drawn(page()), ("drawn", (), (((), 0, "page", ()),), ()))

    def test_client_is_the_parameter(self):
        for client in (1, 2, 4):
            self.assert_words([str(client)], "text me", told={"client": client})

    def test_shared_and_resources(self):
        template = page("text n", 'text resource("x")', shared=("n = 1",))
        told = drawn(template, shared={"n": whole(7)}, resources={"x": words("y"), "z": NONE})
        self.assertEqual(contents(told), ["7", "y"])

    def test_same_again(self):
        template = page("for k v in resource(\"x\")", "  text k", shared=("n = 1",))
        arguments = {"shared": {"n": whole(7)}, "resources": {"x": entries(a=NONE)}}
        self.assertEqual(drawn(template, **arguments), drawn(template, **arguments))

    def test_error_as_a_whole(self):
        for expression, told in PROBLEMS:
            self.assert_told(told, 'text "a"', "text " + expression, "text sub(2, 3)", 'text resource("y")')

    def test_problems_of_states_of_the_root(self):
        for expression, told in PROBLEMS:
            self.assert_told(told, "text sub(0, 1)", states=("s = " + expression,))

    def test_first_problem_counts(self):
        self.assert_told(("waits", "x"), 'text resource("x")', "text sub(1, 2)")
        self.assert_told(("error", "integer underflow"), "text sub(1, 2)", 'text resource("x")')

    def test_kinds_of_what_is_given(self):
        told = drawn(page('element row', '  attr tone = 1', '  on buy(x)', '    expect 1', '  text "a"'))
        self.assertEqual(len(told), 4)
        for part in told[1:]:
            self.assertIsInstance(part, tuple)
        for node in told[1]:
            self.assertIsInstance(node, tuple)
            self.assertEqual(len(node), 11)

    def test_nothing_handed_in_is_changed(self):
        ahead = ("component part(a)", "  state t = a", "  text t", "  text resource(\"x\")")
        lines = ("try", "  for k v in %s offset 1 limit 2" % EIGHT, "    use part(v)", "  text sub(1, 2)", "catch m",
                 "  provide p = n", "    text inject(p, 1)")
        template = page(*lines, ahead=ahead, states=("s = 1",), shared=("n = 1",))
        shared = {"n": whole(2)}
        resources = {"x": words("y")}
        instances = (((), 1, "page", (("s", whole(5)),)), ((step(1, "a"), step(2)), 2, "part", (("t", NONE),)))
        before = (repr(template), dict(shared), dict(resources), repr(instances))
        told = drawn(template, 1, shared, resources, instances)
        self.assertEqual(contents(told), ["2"])
        self.assertEqual((repr(template), shared, resources, repr(instances)), before)


class Texts(Rendering):
    def test_plain_texts(self):
        for literal, content in [("none", ""), ("true", "true"), ("false", "false"), ("0", "0"), ("999999", "999999"),
                                 ('""', ""), ('"a b"', "a b"), ('"' + "a" * 40 + '"', "a" * 40)]:
            self.assert_words([content], "text " + literal)

    def test_wrong_kinds(self):
        for literal in NO_SCALARS:
            self.assert_told(("error", "not a scalar"), "text " + literal)

    def test_problems(self):
        for expression, told in PROBLEMS:
            self.assert_told(told, "text " + expression)


class Elements(Rendering):
    def node(self, *lines, **more):
        told = drawn(page(*lines, **more))
        self.assertEqual(told[0], "drawn", told)
        return told[1][0]

    def test_without_anything(self):
        node = self.node("element row")
        self.assertEqual(node[:8], ("element", (step(0),), (), "row", (), (), -1, 1))

    def test_attributes_by_names(self):
        node = self.node("element row", "  attr b = 1", "  attr a10 = true", '  attr a9 = "x"', "  attr a = 2")
        self.assertEqual(node[4], (("a", whole(2)), ("a10", TRUE), ("a9", words("x")), ("b", whole(1))))

    def test_attributes_that_are_none(self):
        node = self.node("element row", "  attr b = none", "  attr a = false", '  attr c = ""', "  attr d = 0",
                         "  attr e = cond(true, none, 1)")
        self.assertEqual(node[4], (("a", FALSE), ("c", words("")), ("d", whole(0))))

    def test_wrong_kinds_of_attributes(self):
        for literal in NO_SCALARS:
            self.assert_told(("error", "not a scalar"), "element row", "  attr a = " + literal)

    def test_problems_of_attributes(self):
        for expression, told in PROBLEMS:
            self.assert_told(told, "element row", "  attr a = " + expression)

    def test_attributes_in_their_order(self):
        # b stands ahead of a, so it is looked at first.
        self.assert_told(("error", "not a scalar"), "element row", "  attr b = map()", '  attr a = resource("x")')
        self.assert_told(("waits", "x"), "element row", '  attr b = resource("x")', "  attr a = map()")

    def test_expected_values(self):
        template = page("element row", "  on sell(x)", "    set n = x", "  on buy(x)", "    expect n", "    set n = x",
                        "  on look(x)", '    expect map("a", 1)', "  on be(x)", "    expect none", "  on do(x)",
                        shared=("n = 1",))
        node = drawn(template, shared={"n": whole(3)})[1][0]
        self.assertEqual(node[5], (("sell", 1, ()), ("buy", 3, (whole(3),)), ("look", 6, (entries(a=whole(1)),)),
                                   ("be", 8, (NONE,)), ("do", 10, ())))

    def test_problems_of_expected_values(self):
        for expression, told in PROBLEMS:
            self.assert_told(told, "element row", "  on buy(x)", "    expect " + expression)

    def test_expected_values_in_their_order(self):
        self.assert_told(("waits", "x"), "element row", "  on b(x)", '    expect resource("x")', "  on a(x)",
                         "    expect sub(1, 2)")
        self.assert_told(("error", "integer underflow"), "element row", "  on b(x)", "    expect sub(1, 2)",
                         "  on a(x)", '    expect resource("x")')

    def test_attributes_ahead_of_expected_values_ahead_of_the_block(self):
        self.assert_told(("error", "not a scalar"), "element row", "  attr a = map()", "  on b(x)",
                         '    expect resource("x")')
        self.assert_told(("waits", "x"), "element row", "  attr a = 1", "  on b(x)", '    expect resource("x")',
                         "  text sub(1, 2)")

    def test_assignments_are_not_evaluated(self):
        node = self.node("element row", "  on buy(x)", "    expect 1", "    set n = sub(1, 2)",
                         '    emit look(resource("x"))', shared=("n = 1",))
        self.assertEqual(node[5], (("buy", 1, (whole(1),)),))

    def test_block(self):
        self.assert_words(["row", "a", "cell", "b", "c"], "element row", "  attr a = 1", "  on b(x)", '  text "a"',
                          "  element cell", '    text "b"', 'text "c"')

    def test_element_stands_ahead_of_its_block(self):
        told = drawn(page("element row", "  element cell", '    text "a"', '  text "b"', 'text "c"'))
        self.assertEqual([(node[3], node[6], node[7]) for node in told[1]],
                         [("row", -1, 1), ("cell", 0, 0), ("a", 1, 0), ("b", 0, 0), ("c", -1, 1)])


class Conditions(Rendering):
    def test_with_else(self):
        self.assert_words(["a", "c"], "if true", '  text "a"', "else", '  text "b"', 'text "c"')
        self.assert_words(["b", "c"], "if false", '  text "a"', "else", '  text "b"', 'text "c"')

    def test_without_else(self):
        self.assert_words(["a", "c"], "if true", '  text "a"', 'text "c"')
        self.assert_words(["c"], "if false", '  text "a"', 'text "c"')

    def test_the_other_block_is_not_rendered(self):
        self.assert_words(["a"], "if true", '  text "a"', "else", "  text sub(1, 2)")
        self.assert_words(["b"], "if false", "  text sub(1, 2)", "else", '  text "b"')

    def test_else_of_its_own_condition(self):
        lines = ("if lt(me, 3)", "  if lt(me, 2)", '    text "a"', "  else", '    text "b"', "else", '  text "c"')
        for client, word in ((1, "a"), (2, "b"), (3, "c")):
            self.assert_words([word], *lines, told={"client": client})

    def test_condition_of_a_condition_without_else(self):
        self.assert_words([], "if true", "  if false", '    text "a"', "else", '  text "b"')

    def test_wrong_kinds(self):
        for literal in NO_BOOLEANS:
            self.assert_told(("error", "not a boolean"), "if " + literal, "else", '  text "a"')

    def test_problems(self):
        for expression, told in PROBLEMS:
            self.assert_told(told, "if " + expression, "else", '  text "a"')


class Repetitions(Rendering):
    def test_entries_in_order(self):
        self.assert_words(["b", "1", "a", "true", "c", ""], 'for k v in map("b", 1, "a", true, "c", none)', "  text k",
                          "  text v")

    def test_keys_are_texts(self):
        told = drawn(page('for k v in map("1", 1, "true", true)', "  if eq(k, v)", '    text "same"', "  text k"))
        self.assertEqual(contents(told), ["1", "true"])
        self.assertEqual([dict(node[9])["k"] for node in told[1]], [words("1"), words("true")])
        self.assertEqual([dict(node[9])["v"] for node in told[1]], [whole(1), TRUE])

    def test_empty_map(self):
        self.assert_words(["b"], "for k v in map()", "  text sub(1, 2)", 'text "b"')

    def test_empty_block(self):
        self.assert_words(["b"], "for k v in " + EIGHT, 'text "b"')

    def test_offset_and_limit(self):
        cases = [(0, 8, "abcdefgh"), (0, 9, "abcdefgh"), (0, 0, ""), (0, 1, "a"), (3, 2, "de"), (7, 1, "h"),
                 (7, 5, "h"), (8, 1, ""), (9, 9, ""), (999999, 999999, ""), (0, 999999, "abcdefgh"), (2, 0, ""),
                 (1, 7, "bcdefgh"), (0, 7, "abcdefg")]
        for offset, limit, keys in cases:
            self.assert_words(list(keys), f"for k v in {EIGHT} offset {offset} limit {limit}", "  text k")

    def test_wrong_kinds(self):
        for literal in NO_MAPS:
            self.assert_told(("error", "not a map"), f"for k v in {literal}")
            self.assert_told(("error", "not a map"), f"for k v in {literal} offset 0 limit 1")
        for literal in NO_INTEGERS:
            self.assert_told(("error", "not an integer"), f"for k v in map() offset {literal} limit 1")
            self.assert_told(("error", "not an integer"), f"for k v in map() offset 0 limit {literal}")

    def test_problems(self):
        for expression, told in PROBLEMS:
            self.assert_told(told, f"for k v in {expression}")
            self.assert_told(told, f"for k v in map() offset {expression} limit 1")
            self.assert_told(told, f"for k v in map() offset 0 limit {expression}")

    def test_kinds_are_looked_at_one_by_one(self):
        self.assert_told(("error", "not a map"), 'for k v in 1 offset resource("x") limit 1')
        self.assert_told(("error", "not an integer"), 'for k v in map() offset none limit resource("x")')
        self.assert_told(("waits", "x"), 'for k v in map() offset resource("x") limit none')
        self.assert_told(("waits", "x"), 'for k v in resource("x") offset none limit none')

    def test_one_in_the_other(self):
        self.assert_words(["ac", "ad", "bc", "bd"], 'for k v in map("a", 1, "b", 2)',
                          '  for j w in map("c", 1, "d", 2)', "    text concat(k, j)")

    def test_names_are_in_reach_in_the_block_alone(self):
        self.assert_words(["1", "2"], 'for k v in map("a", 1)', "  text v", 'for k v in map("a", 2)', "  text v")


class Uses(Rendering):
    PART = ("component part(a, b)", "  text a", "  if eq(b, map())", '    text "b"')

    def test_parameters(self):
        self.assert_words(["1", "x", "b"], "use part(1, 2)", 'use part("x", map())', ahead=self.PART)

    def test_any_values(self):
        self.assert_words(["b"], "use part(map(), map())", ahead=("component part(a, b)", "  if eq(a, b)",
                                                                  '    text "b"'))

    def test_problems_from_the_left(self):
        for expression, told in PROBLEMS:
            self.assert_told(told, f"use part({expression}, 1)", ahead=self.PART)
            self.assert_told(told, f"use part(1, {expression})", ahead=self.PART)
        self.assert_told(("waits", "x"), 'use part(resource("x"), sub(1, 2))', ahead=self.PART)
        self.assert_told(("error", "integer underflow"), 'use part(sub(1, 2), resource("x"))', ahead=self.PART)

    def test_arguments_ahead_of_states(self):
        ahead = ("component part(a)", "  state s = sub(1, 2)")
        self.assert_told(("waits", "x"), 'use part(resource("x"))', ahead=ahead)
        self.assert_told(("error", "integer underflow"), "use part(1)", ahead=ahead)

    def test_nothing_around_is_in_reach(self):
        ahead = ("component part(a)", "  state s = 5", "  text a")
        lines = ('for k v in map("x", 1)', "  try", "    text sub(1, 2)", "  catch m", "    use part(me)")
        told = drawn(page(*lines, ahead=ahead, shared=("n = 1",), states=("t = 2",)), 3, {"n": whole(9)})
        self.assertEqual([(node[3], node[9]) for node in told[1]],
                         [("3", (("a", whole(3)), ("n", whole(9)), ("s", whole(5))))])

    def test_states(self):
        ahead = ("component part(a)", "  state s = add(a, n)", "  state t = add(s, 1)",
                 '  state u = concat(inject(p, "none"), resource("x"))', "  text a", "  text s", "  text t", "  text u")
        told = {"shared": {"n": whole(10)}, "resources": {"x": words("y")}}
        self.assert_words(["1", "11", "12", "noney", "2", "12", "13", "oy"], "use part(1)", 'provide p = "o"',
                          "  use part(2)", ahead=ahead, shared=("n = 1",), told=told)

    def test_problems_of_states(self):
        for expression, told in PROBLEMS:
            ahead = ("component part()", "  state s = " + expression, "  text sub(0, 5)")
            self.assert_told(told, "use part()", ahead=ahead)

    def test_uses_in_uses(self):
        ahead = ("component a(x)", "  text x", "component b(x)", "  use a(add(x, 1))", "  use a(add(x, 2))",
                 "component c(x)", "  use b(add(x, 10))", "  use b(add(x, 20))")
        self.assert_words(["11", "12", "21", "22"], "use c(0)", ahead=ahead)

    def test_no_parameters(self):
        self.assert_words(["p"], "use part()", ahead=("component part()", '  text "p"'))


class Provides(Rendering):
    def test_innermost_first(self):
        self.assert_words(["1", "2", "1", "0"], "provide p = 1", "  text inject(p, 0)", "  provide p = 2",
                          "    text inject(p, 0)", "  text inject(p, 0)", "text inject(p, 0)")

    def test_any_value(self):
        self.assert_words(["2"], 'provide p = map("a", 1, "b", 2)', "  text size(inject(p, map()))")

    def test_through_uses(self):
        ahead = ("component low()", "  text inject(p, 0)", "component high()", "  use low()", "  provide p = 2",
                 "    use low()")
        self.assert_words(["0", "2", "1", "2"], "use high()", "provide p = 1", "  use high()", ahead=ahead)

    def test_the_value_is_evaluated_around(self):
        self.assert_words(["2"], "provide p = 1", "  provide p = add(inject(p, 5), 1)", "    text inject(p, 0)")

    def test_problems(self):
        for expression, told in PROBLEMS:
            self.assert_told(told, "provide p = " + expression)

    def test_of_nodes(self):
        told = drawn(page("provide p = 1", "  provide q = map()", "    element row", "      provide p = 2",
                          '        text "a"', 'text "b"'))
        self.assertEqual([(node[3], node[10]) for node in told[1]],
                         [("row", (("q", ("map", ())), ("p", whole(1)))),
                          ("a", (("p", whole(2)), ("q", ("map", ())), ("p", whole(1)))), ("b", ())])


class Tries(Rendering):
    def test_taken(self):
        self.assert_words(["integer underflow", "c"], "try", '  text "a"', "  text sub(1, 2)", "catch m", "  text m",
                          'text "c"')

    def test_not_taken(self):
        self.assert_words(["a", "c"], "try", '  text "a"', "catch m", "  text m", 'text "c"')

    def test_without_catch(self):
        self.assert_words(["c"], "try", '  text "a"', "  text sub(1, 2)", 'text "c"')
        self.assert_words(["a", "c"], "try", '  text "a"', 'text "c"')

    def test_message_of_a_wrong_kind(self):
        self.assert_words(["not a boolean"], "try", "  if 1", "catch m", "  text m")

    def test_message_is_a_text(self):
        told = drawn(page("try", "  text sub(1, 2)", "catch m", '  text "a"'))
        self.assertEqual(told[1][0][9], (("m", words("integer underflow")), ("me", whole(1))))

    def test_does_not_catch_waiting(self):
        self.assert_told(("waits", "x"), "try", '  text resource("x")', "catch m", "  text m")

    def test_a_catch_that_fails(self):
        self.assert_told(("error", "not a map"), "try", "  text sub(1, 2)", "catch m", "  for k v in m")
        self.assert_told(("waits", "x"), "try", "  text sub(1, 2)", "catch m", '  text resource("x")')
        self.assert_words(["not a map"], "try", "  try", "    text sub(1, 2)", "  catch m", "    for k v in m",
                          "catch l", "  text l")

    def test_the_innermost_one_catches(self):
        self.assert_words(["a", "in integer underflow", "b"], "try", '  text "a"', "  try", "    text sub(1, 2)",
                          "  catch m", '    text concat("in ", m)', '  text "b"', "catch l", '  text concat("out ", l)')

    def test_nothing_is_left(self):
        ahead = ("component part()", '  text "p"')
        told = drawn(page('text "a"', "use part()", "try", "  element row", '    text "b"', "    use part()",
                          '    portal top', '      text "c"', "  text sub(1, 2)", "catch m", "  element cell",
                          "    use part()", '    text "d"', ahead=ahead))
        self.assertEqual([(node[3], node[6]) for node in told[1]],
                         [("a", -1), ("p", -1), ("cell", -1), ("p", 2), ("d", 2)])
        self.assertEqual([instance[0] for instance in told[2]], [(), (step(1),), (step(11),)])

    def test_from_within_uses(self):
        ahead = ("component part(a)", "  text a", "  text sub(a, 1)")
        self.assert_words(["integer underflow", "1", "0"], "try", "  use part(1)", "  use part(0)", "catch m",
                          "  text m", "try", "  use part(1)", ahead=ahead)

    def test_from_a_state(self):
        ahead = ("component part()", "  state s = sub(1, 2)", '  text "a"')
        self.assert_words(["integer underflow"], "try", "  use part()", "catch m", "  text m", ahead=ahead)

    def test_provided_and_parents_behind_it(self):
        told = drawn(page("element row", "  try", "    element cell", "      provide p = 1", "        portal top",
                          "          text sub(1, 2)", "  catch m", "    text inject(p, 0)", '  text "b"'))
        self.assertEqual([(node[3], node[6], node[7], node[10]) for node in told[1]],
                         [("row", -1, 1, ()), ("0", 0, 0, ()), ("b", 0, 0, ())])


class Suspenses(Rendering):
    def test_taken(self):
        self.assert_words(["f", "c"], "suspense", '  text "a"', '  text resource("x")', "fallback", '  text "f"',
                          'text "c"')

    def test_not_taken(self):
        self.assert_words(["a", "y", "c"], "suspense", '  text "a"', '  text resource("x")', "fallback", '  text "f"',
                          'text "c"', told={"resources": {"x": words("y")}})

    def test_without_fallback(self):
        self.assert_words(["c"], "suspense", '  text "a"', '  text resource("x")', 'text "c"')
        self.assert_words(["a", "c"], "suspense", '  text "a"', 'text "c"')

    def test_does_not_catch_errors(self):
        self.assert_told(("error", "integer underflow"), "suspense", "  text sub(1, 2)", "fallback", '  text "f"')

    def test_a_fallback_that_waits(self):
        self.assert_told(("waits", "y"), "suspense", '  text resource("x")', "fallback", '  text resource("y")')
        self.assert_told(("error", "integer underflow"), "suspense", '  text resource("x")', "fallback",
                         "  text sub(1, 2)")
        self.assert_words(["f"], "suspense", "  suspense", '    text resource("x")', "  fallback",
                          '    text resource("y")', "fallback", '  text "f"')

    def test_try_in_a_suspense_and_the_other_way(self):
        self.assert_words(["f"], "suspense", "  try", '    text resource("x")', "  catch m", "    text m", "fallback",
                          '  text "f"')
        self.assert_words(["integer underflow"], "try", "  suspense", "    text sub(1, 2)", "  fallback",
                          '    text "f"', "catch m", "  text m")

    def test_nothing_is_left(self):
        ahead = ("component part()", '  text "p"')
        told = drawn(page("use part()", "suspense", "  element row", "    use part()", '  text resource("x")',
                          "fallback", "  use part()", ahead=ahead))
        self.assertEqual([(node[3], node[6]) for node in told[1]], [("p", -1), ("p", -1)])
        self.assertEqual([instance[0] for instance in told[2]], [(), (step(0),), (step(6),)])


class Portals(Rendering):
    def assert_parents(self, expected, *lines, **more):
        told = drawn(page(*lines, **more))
        self.assertEqual([(node[3], node[6], node[7]) for node in told[1]], expected, lines)

    def test_without_elements(self):
        self.assert_parents([("a", -1, 1), ("b", -1, 2), ("c", -1, 1), ("d", -1, 1)], 'text "a"', "portal top",
                            '  text "b"', "  portal main", '    text "c"', 'text "d"')

    def test_in_an_element(self):
        self.assert_parents([("row", -1, 1), ("a", 0, 2), ("b", 0, 0)], "element row", "  portal top", '    text "a"',
                            '  text "b"')

    def test_in_an_element_in_a_portal(self):
        self.assert_parents([("row", -1, 2), ("a", 0, 0), ("cell", 0, 3), ("b", 2, 0), ("c", 0, 3)], "portal top",
                            "  element row", '    text "a"', "    portal low", "      element cell",
                            '        text "b"', '      text "c"', layers="main, top, low")

    def test_the_innermost_one_counts(self):
        self.assert_parents([("row", -1, 1), ("a", 0, 3)], "element row", "  portal top", "    portal low",
                            '      text "a"', layers="main, top, low")

    def test_through_other_lines(self):
        self.assert_parents([("row", -1, 1), ("a", 0, 2), ("b", 0, 2), ("c", 0, 2), ("d", 0, 2)], "element row",
                            "  portal top", "    if true", '      text "a"', '    for k v in map("a", 1)',
                            '      text "b"', "    provide p = 1", '      text "c"', "    try", "      suspense",
                            '        text "d"')

    def test_through_uses(self):
        ahead = ("component part()", '  text "p"', "  portal low", '    text "q"', "  element cell", '    text "r"')
        self.assert_parents([("p", -1, 2), ("q", -1, 3), ("cell", -1, 2), ("r", 2, 0),
                             ("row", -1, 1), ("p", 4, 0), ("q", 4, 3), ("cell", 4, 0), ("r", 7, 0),
                             ("p", 4, 2), ("q", 4, 3), ("cell", 4, 2), ("r", 11, 0)],
                            "portal top", "  use part()", "element row", "  use part()", "  portal top",
                            "    use part()", ahead=ahead, layers="main, top, low")


class Nodes(Rendering):
    def paths(self, *lines, **more):
        told = drawn(page(*lines, **more))
        self.assertEqual(told[0], "drawn", told)
        return [(node[3], node[1], node[2], node[8]) for node in told[1]]

    def test_paths_have_no_steps_of_lines_around(self):
        lines = ("element row", "  if true", '    text "a"', "  else", '    text "b"', "  provide p = 1",
                 '    text "c"', "  try", '    text "d"', "  catch m", '    text "e"', "  suspense", '    text "f"',
                 "  portal top", '    text "g"')
        self.assertEqual(self.paths(*lines), [("row", (step(0),), (), 0), ("a", (step(2),), (), 2),
                                              ("c", (step(6),), (), 6), ("d", (step(8),), (), 8),
                                              ("f", (step(12),), (), 12), ("g", (step(14),), (), 14)])

    def test_paths_of_the_other_blocks(self):
        lines = ("if false", "else", '  text "a"', "try", "  text sub(1, 2)", "catch m", '  text "b"', "suspense",
                 '  text resource("x")', "fallback", '  text "c"')
        self.assertEqual(self.paths(*lines), [("a", (step(2),), (), 2), ("b", (step(6),), (), 6),
                                              ("c", (step(10),), (), 10)])

    def test_paths_through_entries(self):
        lines = ('for k v in map("a", 1, "b", 2)', "  element row", '    for j w in map("c", 1)', "      text j")
        self.assertEqual(self.paths(*lines), [
            ("row", (step(0, "a"), step(1)), (), 1), ("c", (step(0, "a"), step(2, "c"), step(3)), (), 3),
            ("row", (step(0, "b"), step(1)), (), 1), ("c", (step(0, "b"), step(2, "c"), step(3)), (), 3)])

    def test_paths_through_uses(self):
        ahead = ("component low(a)", "  state s = 1", "  text a", 'component high(a)', '  for k v in map("y", 1)',
                 "    use low(k)", "  text a")
        lines = ('text "t"', 'for k v in map("x", 1)', "  use high(k)", "use low(2)")
        one = (step(1, "x"), step(2))
        other = one + (step(0, "y"), step(1))
        self.assertEqual(self.paths(*lines, ahead=ahead), [
            ("t", (step(0),), (), 0), ("y", other + (step(0),), other, 0), ("x", one + (step(2),), one, 2),
            ("2", (step(3), step(0)), (step(3),), 0)])

    def test_states_are_no_lines_of_the_body(self):
        self.assertEqual(self.paths('text "a"', states=("s = 1", "t = 2")), [("a", (step(0),), (), 0)])

    def test_scope(self):
        lines = ('for z y in map("k", true)', "  try", "    text sub(1, 2)", "  catch b", "    element row",
                 "      on buy(x)", "        expect 1", '    text "a"')
        told = drawn(page(*lines, shared=("n = 1", "c = 2"), states=("s = map()",)), 4, {"n": NONE, "c": whole(7)})
        scope = (("b", words("integer underflow")), ("c", whole(7)), ("me", whole(4)), ("n", NONE), ("s", ("map", ())),
                 ("y", TRUE), ("z", words("k")))
        self.assertEqual([(node[3], node[9]) for node in told[1]], [("row", scope), ("a", scope)])

    def test_scope_behind_what_brings_names(self):
        told = drawn(page('for k v in map("a", 1)', "  text k", "try", "  text sub(1, 2)", "catch m", "  text m",
                          'text "b"'), 4)
        me = ("me", whole(4))
        self.assertEqual([(node[3], node[9]) for node in told[1]], [
            ("a", (("k", words("a")), me, ("v", whole(1)))),
            ("integer underflow", (("m", words("integer underflow")), me)), ("b", (me,))])

    def test_scope_around_a_use(self):
        ahead = ("component part(a)", "  state s = a", "  text s")
        told = drawn(page("use part(1)", "text me", ahead=ahead), 4)
        self.assertEqual([node[9] for node in told[1]], [(("a", whole(1)), ("s", whole(1))), (("me", whole(4)),)])

    def test_names_in_order_of_texts(self):
        told = drawn(page('text "a"', shared=("n2 = 1", "n10 = 2", "n = 3")), 1,
                     {"n2": whole(1), "n10": whole(2), "n": whole(3)})
        self.assertEqual([name for name, _ in told[1][0][9]], ["me", "n", "n10", "n2"])

    def test_whole_node(self):
        ahead = ("component part(a)", "  state s = 1", "  element cell", "    attr tone = a", "    on buy(x)",
                 "      expect s", "      set s = x", "    text s")
        told = drawn(page("provide p = 5", '  for k v in map("x", 2)', "    element row", "      portal top",
                          "        use part(v)", ahead=ahead))
        path = (step(1, "x"), step(4))
        outer = (("k", words("x")), ("me", whole(1)), ("v", whole(2)))
        inner = (("a", whole(2)), ("s", whole(1)))
        given = (("p", whole(5)),)
        self.assertEqual(told, ("drawn", (
            ("element", (step(1, "x"), step(2)), (), "row", (), (), -1, 1, 2, outer, given),
            ("element", path + (step(0),), path, "cell", (("tone", whole(2)),), (("buy", 2, (whole(1),)),), 0, 2, 0,
             inner, given),
            ("text", path + (step(5),), path, "1", (), (), 1, 0, 5, inner, given),
        ), (((), 0, "page", ()), (path, 0, "part", (("s", whole(1)),))), ()))


if __name__ == "__main__":
    unittest.main()
