"""l1 to l3, l5, l6: what a server does and tells."""

import unittest

from pages import NONE, TRUE, entries, page_text, whole, words
from remoteviews.diffs import diff
from remoteviews.errors import BadArgument, BadMessage, BadTemplate
from remoteviews.messages import read_update, write_report
from remoteviews.server import Server
from remoteviews.templates import parse_template
from remoteviews.writing import template_text

PERCENT = chr(37)
# Version 1 of each client: a row (5) that handles buy, with n as a text (6), and a text (7) with the client's number.
SHOP = page_text("element row", "  on buy(x)", "    expect n", "    set n = add(n, 1)", "  on give(x)",
                 "    set n = x", "  on keep(x)", "    set s = x", "  on fail(x)", "    set n = sub(0, 1)", "  text n",
                 "text concat(me, s)", shared=("n = 1",), states=('s = ""',), layers="main")
START = 'start shop "' + template_text(parse_template(SHOP)).replace('"', '\\"').replace("\n", "\\n") + '"'


def shop(clients=1, text=SHOP):
    server = Server("shop", text)
    for _ in range(clients):
        server.connect()
    return server


def report(displayed, *events, client=1, server="shop"):
    return write_report((server, client, displayed, events))


def event(sequence, version, node=5, name="buy", scalar=NONE):
    return (sequence, version, node, name, scalar)


def told(server):
    """All that a server tells, but updates, which save."""
    clients = server.clients()
    return repr(([server.session(client) for client in clients], [server.outcomes(client) for client in clients],
                 server.shared(), server.log(), clients))


class Tests(unittest.TestCase):
    def assert_refused(self, reason, call, *arguments):
        with self.assertRaises(BadArgument) as seen:
            call(*arguments)
        self.assertEqual(seen.exception.reason, reason)

    def assert_unchanged(self, server, call, *arguments, error=BadArgument):
        before = (told(server), server.saved())
        with self.assertRaises(error):
            call(*arguments)
        self.assertEqual((told(server), server.saved()), before)


class Begin(Tests):
    def test_at_first(self):
        server = Server("shop", SHOP)
        self.assertEqual((server.log(), server.saved(), server.clients()), ([START], 0, []))
        self.assertEqual(server.shared(), {"n": whole(1)})

    def test_names(self):
        for name in ("a", "a23456789012", "none", "start"):
            self.assertTrue(Server(name, SHOP).log()[0].startswith("start " + name + ' "layers main'))
        for name in ("", "a234567890123", "Shop", "1a", "a b", "a\n", "a_b"):
            self.assert_refused("name", Server, name, SHOP)

    def test_name_ahead_of_template(self):
        self.assert_refused("name", Server, "", "no template")
        with self.assertRaises(BadTemplate) as seen:
            Server("shop", "layers main\ncomponent page(me)\n  text n")
        self.assertEqual((seen.exception.line, seen.exception.reason), (3, "undefined name: n"))

    def test_text_in_its_written_form(self):
        server = Server("shop", 'layers   main\ncomponent page( me )\n  text  "a\\\\"')
        self.assertEqual(server.log(), ['start shop "layers main\\ncomponent page(me)\\n  text \\"a\\\\\\\\\\""'])

    def test_first_values_with_those_ahead(self):
        server = Server("shop", page_text(shared=("a = 2", "b = add(a, 1)", "c = map()", "d = eq(a, b)")))
        self.assertEqual(server.shared(), {"a": whole(2), "b": whole(3), "c": ("map", ()), "d": ("bool", False)})


class Connect(Tests):
    def test_up_to_four(self):
        server = Server("shop", SHOP)
        self.assertEqual([server.connect() for _ in range(4)], [1, 2, 3, 4])
        self.assertEqual(server.clients(), [1, 2, 3, 4])
        self.assertEqual(server.log(), [START] + ["connect"] * 4)
        self.assert_refused("clients", server.connect)
        self.assert_unchanged(server, server.connect)

    def test_numbers_are_not_given_twice(self):
        server = shop(4)
        server.disconnect(4)
        server.disconnect(2)
        self.assertEqual((server.connect(), server.connect()), (5, 6))
        self.assertEqual(server.clients(), [1, 3, 5, 6])
        self.assert_refused("clients", server.connect)

    def test_saves_all(self):
        server = shop(1)
        self.assertEqual(server.saved(), 2)
        server.resolve("x", NONE)
        server.dispatch(1, 5, "buy", NONE)
        self.assertEqual((server.saved(), len(server.log())), (2, 4))
        server.connect()
        self.assertEqual((server.saved(), len(server.log())), (5, 5))

    def test_session(self):
        server = shop(2)
        for client in (1, 2):
            self.assertEqual(server.session(client), (1, (1,), None, (("layer", 1, "main", (
                ("element", 5, "row", (), (("text", 6, "1"),)), ("text", 7, str(client)))),)))
            self.assertEqual(server.outcomes(client), [])

    def test_session_with_a_problem(self):
        for line, problem in (('text resource("x")', ("waits", "x")), ("text sub(1, 2)", ("error", "integer underflow"))):
            server = shop(1, page_text(line, layers="main"))
            self.assertEqual(server.session(1), (1, (1,), problem, (("layer", 1, "main", ()),)))


class Disconnect(Tests):
    def test_the_session_is_gone(self):
        server = shop(2)
        self.assertIsNone(server.disconnect(1))
        self.assertEqual((server.clients(), server.log()[-1], server.saved()), ([2], "disconnect 1", 3))
        self.assert_refused("client", server.session, 1)

    def test_clients_that_are_not_connected(self):
        server = shop(2)
        server.disconnect(1)
        for client in (0, 1, 3, 999999999):
            for call, more in ((server.disconnect, ()), (server.dispatch, (5, "buy", NONE)), (server.update, ()),
                               (server.session, ()), (server.outcomes, ())):
                self.assert_refused("client", call, client, *more)
                self.assert_unchanged(server, call, client, *more)
            self.assert_refused("client", server.receive, report(0, client=client))


class Dispatch(Tests):
    def test_applied(self):
        server = shop(2)
        self.assertEqual(server.dispatch(2, 5, "give", whole(7)), "applied")
        self.assertEqual(server.shared(), {"n": whole(7)})
        self.assertEqual(server.log()[3:], ["event 2 0 5 give 7"])
        self.assertEqual((server.outcomes(1), server.outcomes(2), server.saved()), ([], [], 3))

    def test_the_element_that_handles_it_stands_in_the_log(self):
        server = shop()
        self.assertEqual(server.dispatch(1, 6, "buy", words('a "b"')), "applied")
        self.assertEqual(server.log()[2:], ['event 1 0 5 buy "a \\"b\\""'])

    def test_a_pass_behind_it(self):
        server = shop(3)
        server.dispatch(2, 5, "give", whole(7))
        for client in (1, 2, 3):
            version, versions, problem, tree = server.session(client)
            self.assertEqual((version, versions, problem), (2, (1, 2), None))
            self.assertEqual(tree[0][3][0][4], (("text", 6, "7"),))

    def test_states_belong_to_the_client(self):
        server = shop(2)
        self.assertEqual(server.dispatch(2, 5, "keep", words("x")), "applied")
        self.assertEqual([server.session(client)[3][0][3][1] for client in (1, 2)], [("text", 7, "1"), ("text", 7, "2x")])
        self.assertEqual([server.session(client)[0] for client in (1, 2)], [1, 2])

    def test_expected_values_do_not_matter(self):
        server = shop()
        for number in range(2, 20):
            self.assertEqual(server.dispatch(1, 5, "buy", NONE), "applied")
            self.assertEqual(server.shared(), {"n": whole(number)})

    def test_unhandled_and_failed_change_nothing(self):
        server = shop(2)
        for node, name, outcome in ((5, "look", "unhandled"), (7, "buy", "unhandled"), (1, "buy", "unhandled"),
                                    (0, "buy", "unhandled"), (99, "buy", "unhandled"), (5, "fail", "failed"),
                                    (6, "fail", "failed")):
            before = (told(server), server.saved())
            self.assertEqual(server.dispatch(1, node, name, NONE), outcome)
            self.assertEqual((told(server), server.saved()), before)

    def test_nodes_of_older_drawings(self):
        text = page_text("if lt(n, 2)", "  element row", "    on buy(x)", "      set n = 5", layers="main",
                         shared=("n = 1",))
        server = shop(1, text)
        self.assertEqual(server.dispatch(1, 5, "buy", NONE), "applied")
        self.assertEqual(server.dispatch(1, 5, "buy", NONE), "unhandled")

    def test_an_emit_that_is_assigned_behind(self):
        text = page_text("element box", "  on more(x)", "    set n = add(n, x)", "  element row", "    on buy(x)",
                         "      set n = 50", "      emit more(1)", "  text n", layers="main", shared=("n = 1",))
        server = shop(1, text)
        self.assertEqual(server.dispatch(1, 6, "buy", NONE), "applied")
        # Both values were evaluated with n = 1; the one behind counts.
        self.assertEqual(server.shared(), {"n": whole(2)})
        self.assertEqual(server.log()[2:], ["event 1 0 6 buy none"])

    def test_several_instances_are_assigned(self):
        part = ("component part()", '  state s = ""', "  element cell", "    on buy(x)", "      set s = x",
                "      emit more(x)", "    text s")
        text = page_text("element row", "  on more(x)", "    set t = concat(t, x)", "  for k v in %s" %
                         'map("a", 1, "b", 2)', "    use part()", "  text t", layers="main", states=('t = ""',),
                         ahead=part)
        server = shop(2, text)
        self.assertEqual(server.dispatch(1, 8, "buy", words("u")), "applied")
        self.assertEqual(server.dispatch(1, 6, "buy", words("w")), "applied")

        def texts(client):
            cells = server.session(client)[3][0][3][0][4]
            return [cells[0][4][0][2], cells[1][4][0][2], cells[2][2]]

        self.assertEqual((texts(1), texts(2)), (["w", "u", "uw"], ["", "", ""]))


class Resolve(Tests):
    TEXT = page_text("suspense", '  text resource("x")', "fallback", '  text "..."', layers="main")

    def test_values(self):
        server = shop(2, self.TEXT)
        self.assertIsNone(server.resolve("x", words("y")))
        self.assertEqual(server.log()[3:], ['resolve "x" "y"'])
        self.assertEqual(server.saved(), 3)
        for client in (1, 2):
            self.assertEqual(server.session(client)[3], (("layer", 1, "main", (("text", 6, "y"),)),))

    def test_an_earlier_one_is_replaced(self):
        server = shop(1, self.TEXT)
        for value, content in ((whole(1), "1"), (TRUE, "true"), (NONE, "")):
            server.resolve("x", value)
            self.assertEqual(server.session(1)[3][0][3], (("text", 6, content),))
        self.assertEqual(server.session(1)[0], 4)
        server.resolve("x", entries(a=NONE))
        self.assertEqual(server.session(1)[2], ("error", "not a scalar"))
        self.assertEqual(server.log()[2:], ['resolve "x" 1', 'resolve "x" true', 'resolve "x" none',
                                            'resolve "x" map("a", none)'])

    def test_names(self):
        server = shop(1, self.TEXT)
        for name in ("a", " ", "a b", "~", "x" * 40, '"\\n"', "map(", "A1"):
            server.resolve(name, NONE)
        self.assertEqual(len(server.log()), 10)
        for name in ("", "x" * 41, "a\nb", "\n", "a\tb", "a" + PERCENT, "\x7f", "\xe4"):
            self.assert_refused("resource", server.resolve, name, NONE)
            self.assert_unchanged(server, server.resolve, name, NONE)


class Replace(Tests):
    def test_another_template(self):
        server = shop(2)
        self.assertIsNone(server.replace("layers main\ncomponent page( me )\n  text  me"))
        self.assertEqual(server.log()[3:], ['replace "layers main\\ncomponent page(me)\\n  text me"'])
        self.assertEqual((server.saved(), server.shared()), (3, {}))
        # The text is the line 0 of the root now, which was the row.
        self.assertEqual(server.session(2), (2, (1, 2), None, (("layer", 1, "main", (("text", 8, "2"),)),)))

    def test_shared_values_that_stay_and_that_begin_anew(self):
        server = shop(0, page_text(shared=("a = 1", "b = 2", "c = 3")))
        server.replace(page_text(shared=("b = 20", "d = add(b, 1)", "a = add(d, 1)", "e = a")))
        # Those that are new have their first values with the first values of those ahead.
        self.assertEqual(server.shared(), {"b": whole(2), "d": whole(21), "a": whole(1), "e": whole(22)})
        server.replace(page_text(shared=("c = 9",)))
        self.assertEqual(server.shared(), {"c": whole(9)})

    def test_a_changed_value_stays(self):
        server = shop()
        server.dispatch(1, 5, "give", words("x"))
        server.replace(SHOP.replace("shared n = 1", "shared n = 5"))
        self.assertEqual(server.shared(), {"n": words("x")})
        server.replace(SHOP.replace("shared n = 1", "shared n = 5\nshared m = n"))
        self.assertEqual(server.shared(), {"n": words("x"), "m": whole(5)})

    def test_instances_and_ids_stay(self):
        server = shop()
        server.dispatch(1, 5, "keep", words("x"))
        tree = server.session(1)[3]
        server.replace(SHOP + '\n  text "more"')
        self.assertEqual(server.session(1)[3][0][3], tree[0][3] + (("text", 8, "more"),))
        self.assertEqual(tree[0][3][1], ("text", 7, "1x"))

    def test_no_template(self):
        server = shop()
        with self.assertRaises(BadTemplate) as seen:
            server.replace("layers main, main")
        self.assertEqual((seen.exception.line, seen.exception.reason), (1, "main is already defined"))
        self.assert_unchanged(server, server.replace, "", error=BadTemplate)
        # Other layers, but no template either.
        self.assert_unchanged(server, server.replace, "layers top", error=BadTemplate)

    def test_other_layers(self):
        server = Server("shop", page_text(layers="main, top"))
        server.connect()
        for layers in ("main", "top", "top, main", "main, top, low", "main, low"):
            text = page_text(layers=layers)
            self.assert_refused("layers", server.replace, text)
            self.assert_unchanged(server, server.replace, text)

    def test_the_root_can_be_another_one(self):
        server = shop()
        server.dispatch(1, 5, "keep", words("x"))
        server.replace(SHOP.replace("component page", "component other"))
        self.assertEqual(server.session(1)[3][0][3][1], ("text", 10, "1"))


class Receive(Tests):
    def test_nothing(self):
        server = shop()
        self.assertEqual(server.receive(report(1)), [])
        self.assertEqual(server.log(), [START, "connect"])

    def test_each_outcome(self):
        lines = ("if lt(n, 5)", "  element row", "    on buy(x)", "      expect m", "      set m = x", "    on go(x)",
                 "      set n = x", "    on fail(x)", "      set n = sub(0, 1)")
        server = shop(1, page_text(*lines, layers="main", shared=("n = 1", "m = 1")))
        self.assertEqual(server.receive(report(1, event(1, 1, 5, "buy", whole(2)), event(2, 1, 5, "buy", whole(3)),
                                               event(3, 1, 5, "fail"), event(4, 0), event(5, 1, 1, "buy"),
                                               event(6, 1, 5, "go", whole(7)), event(7, 1, 5, "buy"), event(8, 9))),
                         ["applied", "conflict", "failed", "stale", "unhandled", "applied", "removed", "stale"])
        self.assertEqual(server.log()[2:], ["event 1 1 5 buy 2", "discard 1 2 conflict", "discard 1 3 failed",
                                            "discard 1 4 stale", "discard 1 5 unhandled", "event 1 6 5 go 7",
                                            "discard 1 7 removed", "discard 1 8 stale"])
        self.assertEqual(server.outcomes(1), ["applied", "conflict", "failed", "stale", "unhandled", "applied",
                                              "removed", "stale"])
        self.assertEqual(server.shared(), {"n": whole(7), "m": whole(2)})
        self.assertEqual(server.saved(), 2)

    def test_the_element_that_handles_it_stands_in_the_log(self):
        server = shop()
        self.assertEqual(server.receive(report(1, event(1, 1, 6, "give", words("x")))), ["applied"])
        self.assertEqual(server.log()[2:], ['event 1 1 5 give "x"'])

    def test_the_handler_of_the_version_that_was_seen(self):
        # What was seen is that the box handles it; now the row in it would.
        lines = ("element box", "  on buy(x)", "    set n = 2", "  element row")
        server = shop(1, page_text(*lines, layers="main", shared=("n = 1",)))
        server.replace(page_text(*lines, "    on buy(x)", "      set n = 3", layers="main", shared=("n = 1",)))
        self.assertEqual(server.receive(report(1, event(1, 1, 6))), ["applied"])
        self.assertEqual((server.log()[-1], server.shared()), ("event 1 1 5 buy none", {"n": whole(2)}))
        self.assertEqual(server.receive(report(1, event(2, 2, 6))), ["applied"])
        self.assertEqual((server.log()[-1], server.shared()), ("event 1 2 6 buy none", {"n": whole(3)}))

    def test_only_applied_ones_have_a_pass(self):
        server = shop(2)
        server.receive(report(1, event(1, 0), event(2, 1, 5, "fail"), event(3, 1, 5, "look")))
        self.assertEqual([server.session(client)[0] for client in (1, 2)], [1, 1])
        server.receive(report(1, event(4, 1, 5, "buy")))
        self.assertEqual([server.session(client)[0] for client in (1, 2)], [2, 2])

    def test_ones_that_were_decided_already(self):
        server = shop()
        self.assertEqual(server.receive(report(1, event(1, 1))), ["applied"])
        self.assertEqual(server.receive(report(1, event(1, 1))), [])
        self.assertEqual(server.receive(report(1, event(1, 1), event(2, 1, 5, "give", whole(9)))), ["applied"])
        self.assertEqual(server.receive(report(1, event(1, 1), event(2, 1))), [])
        self.assertEqual((server.outcomes(1), server.shared()), (["applied", "applied"], {"n": whole(9)}))

    def test_ones_that_come_too_early(self):
        server = shop()
        before = told(server)
        self.assertEqual(server.receive(report(1, event(2, 1), event(3, 1))), [])
        self.assertEqual(server.receive(report(1, event(999999999, 1))), [])
        self.assertEqual(told(server), before)
        self.assertEqual(server.receive(report(1, event(1, 1))), ["applied"])
        self.assertEqual(server.receive(report(1, event(2, 1), event(3, 1))), ["conflict", "conflict"])

    def test_events_of_each_client(self):
        server = shop(2)
        self.assertEqual(server.receive(report(1, event(1, 1), client=2)), ["applied"])
        self.assertEqual(server.receive(report(1, event(1, 1))), ["conflict"])
        self.assertEqual((server.outcomes(1), server.outcomes(2)), (["conflict"], ["applied"]))
        self.assertEqual(server.log()[3:], ["event 2 1 5 buy none", "discard 1 1 conflict"])

    def test_refusals_in_their_order(self):
        server = shop()
        for text in ("", "events", report(1) + "\n", report(1).replace(" ", "  ", 1), server.update(1)):
            self.assert_unchanged(server, server.receive, text, error=BadMessage)
        with self.assertRaises(BadMessage):
            server.receive("events other 9 version 1\nevent")
        self.assert_refused("server", server.receive, report(1, server="other", client=9))
        self.assert_refused("server", server.receive, report(1, server="other"))
        self.assert_refused("client", server.receive, report(1, event(1, 1), client=2))
        self.assert_unchanged(server, server.receive, report(1, event(1, 1), server="other"))
        self.assert_unchanged(server, server.receive, report(1, event(1, 1), client=2))

    def test_a_refused_report_notes_no_version(self):
        server = shop()
        self.assert_refused("server", server.receive, report(1, server="other"))
        self.assertEqual(read_update(server.update(1))[2], 0)


class Update(Tests):
    def test_first(self):
        server = shop(2)
        self.assertEqual(server.update(2), "update shop 2 from 0 to 1 outcomes 1\nlayer 1 main\n"
                         'element 5 in 1 after 0 row\ntext 7 in 1 after 5 "2"\ntext 6 in 5 after 0 "1"\nend')

    def test_saves_all(self):
        server = shop()
        server.resolve("x", NONE)
        self.assertEqual(server.saved(), 2)
        server.update(1)
        self.assertEqual(server.saved(), 3)

    def test_is_not_put_into_the_log(self):
        server = shop()
        before = told(server)
        self.assertEqual(server.update(1), server.update(1))
        self.assertEqual(told(server), before)

    def numbers(self, server):
        return read_update(server.update(1))[2:4]

    def change(self, server, number):
        server.dispatch(1, 5, "give", whole(number))

    def test_the_base_is_the_version_that_was_reported(self):
        server = shop()
        self.assertEqual(self.numbers(server), (0, 1))
        server.receive(report(1))
        self.assertEqual(self.numbers(server), (1, 1))
        self.assertEqual(server.update(1), "update shop 1 from 1 to 1 outcomes 1\nend")
        self.change(server, 50)
        self.change(server, 51)
        self.assertEqual(self.numbers(server), (1, 3))
        server.receive(report(2))
        self.assertEqual(self.numbers(server), (2, 3))
        self.assertEqual(server.update(1), 'update shop 1 from 2 to 3 outcomes 1\ncontent 6 "51"\nend')

    def test_the_greatest_one_counts(self):
        server = shop()
        self.change(server, 50)
        server.receive(report(2))
        server.receive(report(1))
        server.receive(report(0))
        self.assertEqual(self.numbers(server), (2, 2))

    def test_a_base_that_is_not_kept(self):
        server = shop()
        server.receive(report(1))
        for number in range(50, 57):
            self.change(server, number)
        self.assertEqual(self.numbers(server), (1, 8))
        self.change(server, 57)
        self.assertEqual(self.numbers(server), (0, 9))
        self.assertTrue(server.update(1).startswith("update shop 1 from 0 to 9 outcomes 1\nlayer 1 main\n"))
        self.assertEqual(server.session(1)[:2], (9, (2, 3, 4, 5, 6, 7, 8, 9)))
        # An older one that is kept does not help: the greatest one counts, kept or not.
        server.receive(report(999))
        server.receive(report(9))
        self.assertEqual(self.numbers(server), (0, 9))

    def test_each_client_has_its_own_base(self):
        server = shop(2)
        server.receive(report(1, client=2))
        self.assertEqual([read_update(server.update(client))[2] for client in (1, 2)], [0, 1])

    def test_the_patch(self):
        server = shop()
        trees = {0: (), 1: server.session(1)[3]}
        for number in (2, 3, 4):
            self.change(server, 50 + number)
            trees[number] = server.session(1)[3]
        for displayed in (0, 1, 2, 3, 4):
            server.receive(report(displayed))
            self.assertEqual(read_update(server.update(1))[6], diff(trees[displayed], trees[4]))

    def test_outcomes(self):
        server = shop()
        noted = []
        for sequence in range(1, 12):
            self.assertEqual(read_update(server.update(1))[4:6], (max(1, sequence - 8), tuple(noted[-8:])))
            noted += server.receive(report(1, event(sequence, sequence % 2, 5, "keep", whole(sequence))))
            self.assertEqual(len(noted), sequence)
        self.assertEqual(noted, ["applied", "stale"] * 5 + ["applied"])
        self.assertEqual(server.outcomes(1), noted)
        self.assertEqual(read_update(server.update(1))[4:6], (4, tuple(noted[3:])))

    def test_outcomes_by_hand_are_none(self):
        server = shop()
        server.dispatch(1, 5, "buy", NONE)
        self.assertEqual(read_update(server.update(1))[4:6], (1, ()))


class Passes(Tests):
    """A render for each client behind each deed but discard."""

    def test_behind_each_deed(self):
        # A state that is added gets its value in the next render: so it tells when that was.
        server = shop(1, page_text("text n", layers="main", shared=("n = 1",)))
        server.connect()
        server.resolve("x", NONE)
        server.replace(page_text("text n", "text s", "text resource(\"y\")", layers="main", shared=("n = 1",),
                                 states=("s = resource(\"x\")",)))
        self.assertEqual([server.session(client)[2] for client in (1, 2)], [("waits", "y")] * 2)
        server.resolve("y", TRUE)
        self.assertEqual([server.session(client)[2] for client in (1, 2)], [None, None])
        server.disconnect(1)
        self.assertEqual(server.session(2)[0], 3)

    def test_in_the_order_of_connecting(self):
        server = shop(3)
        server.disconnect(1)
        self.assertEqual(server.connect(), 4)
        self.assertEqual(server.clients(), [2, 3, 4])

    def test_equal_drawings_keep_their_version(self):
        server = shop(2)
        server.connect()
        server.resolve("x", NONE)
        server.disconnect(3)
        server.replace(SHOP)
        self.assertEqual([server.session(client)[:2] for client in (1, 2)], [(1, (1,))] * 2)
        self.assertEqual(server.log()[3:], ["connect", 'resolve "x" none', "disconnect 3", START.replace("start shop", "replace")])


class New(Tests):
    """What is handed out is new each time."""

    def test_lists_and_dicts(self):
        server = shop()
        server.receive(report(1, event(1, 1)))
        before = told(server)
        for thing in (server.log(), server.outcomes(1), server.clients(), server.receive(report(1))):
            self.assertIsInstance(thing, list)
            thing.append("x")
        server.log().clear()
        server.clients().clear()
        server.shared().clear()
        server.shared()["n"] = NONE
        self.assertEqual(told(server), before)
        self.assertIsInstance(server.shared(), dict)
        self.assertIsInstance(server.session(1), tuple)

    def test_servers_share_nothing(self):
        one = shop(2)
        other = shop()
        one.dispatch(1, 5, "buy", NONE)
        self.assertEqual((other.shared(), other.log(), other.clients()), ({"n": whole(1)}, [START, "connect"], [1]))


if __name__ == "__main__":
    unittest.main()
