"""e1, e2: which element handles an event, and what running a handler assigns."""

import unittest

from pages import FALSE, NONE, TRUE, drawn, entries, page, step, whole, words
from remoteviews.events import handler_at, run
from remoteviews.identity import drawing

ROWS = (
    (5, 0, (("buy", ()), ("sell", (whole(3),)))),
    (6, 5, ()),
    (7, 6, (("buy", (("map", ()),)), ("look", ()))),
    (9, 7, ()),
    (8, 0, ()),
)


class HandlerAt(unittest.TestCase):
    def test_of_the_node(self):
        self.assertEqual(handler_at(ROWS, 5, "buy"), (5, ()))
        self.assertEqual(handler_at(ROWS, 5, "sell"), (5, (whole(3),)))
        self.assertEqual(handler_at(ROWS, 7, "buy"), (7, (("map", ()),)))

    def test_of_the_element_around(self):
        self.assertEqual(handler_at(ROWS, 6, "buy"), (5, ()))
        self.assertEqual(handler_at(ROWS, 9, "look"), (7, ()))

    def test_outwards(self):
        self.assertEqual(handler_at(ROWS, 7, "sell"), (5, (whole(3),)))
        self.assertEqual(handler_at(ROWS, 9, "sell"), (5, (whole(3),)))
        self.assertEqual(handler_at(ROWS, 9, "buy"), (7, (("map", ()),)))

    def test_none(self):
        self.assertIsNone(handler_at(ROWS, 5, "look"))
        self.assertIsNone(handler_at(ROWS, 9, "bye"))
        self.assertIsNone(handler_at(ROWS, 8, "buy"))

    def test_layers_and_nodes_that_there_are_not(self):
        for node in (0, 1, 2, 3, 4, 10, 999999999):
            self.assertIsNone(handler_at(ROWS, node, "buy"))
        self.assertIsNone(handler_at((), 5, "buy"))

    def test_through_portals_and_uses(self):
        ahead = ("component part()", "  portal top", '    text "a"')
        nodes = drawn(page("element row", "  on buy(x)", "  use part()", ahead=ahead))[1]
        rows = drawing(("main", "top"), nodes, (5, 6))[1]
        self.assertEqual(handler_at(rows, 6, "buy"), (5, ()))


class Run(unittest.TestCase):
    def told(self, template, at, event, scalar=NONE, shared=None, resources=None, instances=()):
        """What running a handler tells; the nodes have ids from 5 on."""
        told = drawn(template, 1, shared, resources, instances)
        self.assertEqual(told[0], "drawn", told)
        ids = tuple(range(5, 5 + len(told[1])))
        return run(template, told[1], ids, at, event, scalar, resources or {})

    def handled(self, *lines, scalar=NONE, resources=None, shared=None, states=("s = 10", "t = 20")):
        """What the handler of the one element assigns that has these lines in its block."""
        rows = ["element row", "  on buy(x)"] + ["    " + line for line in lines]
        template = page(*rows, shared=("n = 1", "m = 2"), states=states)
        return self.told(template, 5, "buy", scalar, shared or {"n": whole(1), "m": whole(2)}, resources)

    def test_nothing(self):
        self.assertEqual(self.handled(), ())
        self.assertEqual(self.handled("expect n"), ())

    def test_states_and_shared_variables(self):
        self.assertEqual(self.handled("set s = 1", "set n = 2", "set t = map()", 'set m = "a"'),
                         (((), "s", whole(1)), ("", "n", whole(2)), ((), "t", ("map", ())), ("", "m", words("a"))))

    def test_the_scalar_is_in_reach(self):
        for scalar in (NONE, TRUE, whole(7), words("y")):
            self.assertEqual(self.handled("set s = x", scalar=scalar), (((), "s", scalar),))

    def test_all_are_evaluated_ahead_of_all_assignments(self):
        self.assertEqual(self.handled("set s = t", "set t = s", "set n = add(n, 1)", "set m = add(n, s)"),
                         (((), "s", whole(20)), ((), "t", whole(10)), ("", "n", whole(2)), ("", "m", whole(11))))

    def test_expected_values_are_not_evaluated(self):
        template = page("element row", "  on buy(x)", "    expect resource(\"r\")", "    set s = x", states=("s = 1",))
        nodes = drawn(template, resources={"r": NONE})[1]
        self.assertEqual(run(template, nodes, (5,), 5, "buy", TRUE, {}), (((), "s", TRUE),))

    def test_resources(self):
        self.assertEqual(self.handled('set s = resource("r")', resources={"r": entries(a=NONE)}),
                         (((), "s", entries(a=NONE)),))

    def test_each_way_to_fail(self):
        for expression in ("sub(1, 2)", 'resource("r")', 'resource("")', "not(x)", "get(map(), \"a\")"):
            self.assertIsNone(self.handled("set s = " + expression), expression)
            self.assertIsNone(self.handled("set n = 1", "set s = " + expression, "set m = 3"), expression)

    def test_scope_and_provided_values_of_the_element(self):
        ahead = ("component part(a)", "  state s = 3", '  for k v in map("u", 5)', "    try", "      text sub(1, 2)",
                 "    catch c", "      provide p = 6", "        element cell", "          on buy(x)",
                 '            set s = concat(concat(a, k), concat(concat(v, n), concat(x, inject(p, 0))))',
                 "            set n = concat(c, inject(q, 0))")
        template = page("element row", "  provide p = 1", "    provide q = 2", "      use part(7)", ahead=ahead,
                        shared=("n = 1",))
        self.assertEqual(self.told(template, 6, "buy", words("-"), {"n": whole(9)}), (
            ((step(3),), "s", words("7u59-6")), ("", "n", words("integer underflow2"))))

    def test_states_belong_to_the_instance_of_the_handler(self):
        ahead = ("component part(a)", "  state s = a", "  element cell", "    on buy(x)", "      set s = add(s, 1)")
        template = page('for k v in map("u", 5, "w", 6)', "  use part(v)", states=("s = 0",), ahead=ahead)
        for at, key, value in ((5, "u", 6), (6, "w", 7)):
            self.assertEqual(self.told(template, at, "buy"), (((step(0, key), step(1)), "s", whole(value)),))

    def test_states_as_they_are_in_the_instance(self):
        template = page("element row", "  on buy(x)", "    set s = add(s, 1)", states=("s = 0",))
        instances = (((), 1, "page", (("s", whole(41)),)),)
        self.assertEqual(self.told(template, 5, "buy", instances=instances), (((), "s", whole(42)),))

    def test_the_right_handler(self):
        template = page("element row", "  on buy(x)", "    set n = 1", "  on sell(x)", "    set n = 2", "element row",
                        "  on buy(y)", "    set n = 3", shared=("n = 0",))
        for at, event, value in ((5, "buy", 1), (5, "sell", 2), (6, "buy", 3)):
            self.assertEqual(self.told(template, at, event, NONE, {"n": NONE}), (("", "n", whole(value)),))

    def test_an_emit_goes_on_outwards(self):
        template = page("element a", "  on more(x)", "    set n = x", "  on buy(x)", "    set n = 100", "  element b",
                        "    on buy(x)", "      set m = add(x, 1)", "      emit more(add(x, 10))",
                        shared=("n = 1", "m = 2"))
        self.assertEqual(self.told(template, 6, "buy", whole(5), {"n": NONE, "m": NONE}),
                         (("", "m", whole(6)), ("", "n", whole(15))))

    def test_an_emit_is_not_for_the_element_itself(self):
        template = page("element a", "  on buy(x)", "    set n = x", "  element b", "    on buy(x)",
                        "      emit buy(add(x, 1))", shared=("n = 1",))
        self.assertEqual(self.told(template, 6, "buy", whole(5), {"n": NONE}), (("", "n", whole(6)),))
        template = page("element a", "  on buy(x)", "    set n = x", "    emit buy(x)", shared=("n = 1",))
        self.assertIsNone(self.told(template, 5, "buy", whole(5), {"n": NONE}))

    def test_an_emit_passes_over_elements(self):
        template = page("element a", "  on more(x)", "    set n = x", "  element b", "    on other(x)",
                        "    element c", "      on buy(x)", "        emit more(x)", shared=("n = 1",))
        self.assertEqual(self.told(template, 7, "buy", TRUE, {"n": NONE}), (("", "n", TRUE),))

    def test_an_emit_through_uses_and_portals(self):
        ahead = ("component part(a)", "  state s = 1", "  portal top", "    element cell", "      on buy(x)",
                 "        set s = x", "        emit more(a)")
        template = page("element a", "  on more(x)", "    set s = add(s, x)", "  if true", "    use part(7)",
                        states=("s = 5",), ahead=ahead)
        self.assertEqual(self.told(template, 6, "buy", whole(2)),
                         (((step(4),), "s", whole(2)), ((), "s", whole(12))))

    def test_emits_that_emit(self):
        template = page("element a", "  on c(x)", "    set n = x", "    set m = 3", "  element b", "    on b(x)",
                        "      set n = 2", "      emit c(add(x, 1))", "    element c", "      on a(x)",
                        "        set n = 1", "        emit b(add(x, 1))", shared=("n = 0", "m = 0"))
        self.assertEqual(self.told(template, 7, "a", whole(0), {"n": NONE, "m": NONE}),
                         (("", "n", whole(1)), ("", "n", whole(2)), ("", "n", whole(2)), ("", "m", whole(3))))

    def test_handlers_outwards_see_the_values_ahead(self):
        template = page("element a", "  on more(x)", "    set m = add(n, 1)", "  element b", "    on buy(x)",
                        "      set n = 50", "      emit more(x)", shared=("n = 1", "m = 0"))
        self.assertEqual(self.told(template, 6, "buy", NONE, {"n": whole(1), "m": NONE}),
                         (("", "n", whole(50)), ("", "m", whole(2))))

    def test_an_emit_that_fails(self):
        for expression in ("sub(1, 2)", 'resource("r")', "map()", 'map("a", 1)'):
            template = page("element a", "  on more(y)", "  element b", "    on buy(x)", "      set n = 1",
                            "      emit more(%s)" % expression, shared=("n = 0",))
            self.assertIsNone(self.told(template, 6, "buy", NONE, {"n": NONE}), expression)

    def test_an_emit_without_a_handler(self):
        template = page("element a", "  on other(y)", "  element b", "    on buy(x)", "      set n = 1",
                        "      emit more(x)", "    on more(x)", shared=("n = 0",))
        self.assertIsNone(self.told(template, 6, "buy", NONE, {"n": NONE}))
        self.assertIsNone(self.handled("set s = 1", "emit more(x)"))

    def test_an_element_without_the_handler(self):
        template = page("element a", "  on buy(x)", "    set n = 1", "  element b", '    text "c"', shared=("n = 0",))
        self.assertEqual(self.told(template, 5, "buy", NONE, {"n": NONE}), (("", "n", whole(1)),))
        for at, name in ((5, "sell"), (6, "buy"), (7, "buy")):
            self.assertIsNone(self.told(template, at, name, NONE, {"n": NONE}))

    def test_a_handler_outwards_that_fails(self):
        template = page("element a", "  on more(x)", "    set m = sub(x, 1)", "  element b", "    on buy(x)",
                        "      set n = 1", "      emit more(x)", shared=("n = 0", "m = 0"))
        self.assertIsNone(self.told(template, 6, "buy", whole(0), {"n": NONE, "m": NONE}))
        self.assertEqual(self.told(template, 6, "buy", whole(1), {"n": NONE, "m": NONE}),
                         (("", "n", whole(1)), ("", "m", whole(0))))

    def test_the_emit_is_evaluated_behind_the_assignments_with_the_old_values(self):
        template = page("element a", "  on more(x)", "    set m = x", "  element b", "    on buy(x)",
                        "      set n = add(n, 1)", "      emit more(n)", shared=("n = 0", "m = 0"))
        self.assertEqual(self.told(template, 6, "buy", NONE, {"n": whole(4), "m": NONE}),
                         (("", "n", whole(5)), ("", "m", whole(4))))

    def test_nothing_handed_in_is_changed(self):
        template = page("element row", "  on buy(x)", "    set s = x", "    set n = s", states=("s = 1",),
                        shared=("n = 1",))
        shared = {"n": whole(1)}
        resources = {"r": FALSE}
        nodes = drawn(template, 1, shared, resources)[1]
        before = repr((template, nodes))
        run(template, nodes, (5,), 5, "buy", TRUE, resources)
        self.assertEqual((repr((template, nodes)), shared, resources), (before, {"n": whole(1)}, {"r": FALSE}))


if __name__ == "__main__":
    unittest.main()
