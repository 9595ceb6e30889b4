"""l4: servers that are built again from beginnings of their logs, and what is refused."""

import unittest

from pages import EIGHT, NONE, TRUE, entries, page_text, whole, words
from remoteviews.errors import BadEntry, NotNext
from remoteviews.messages import read_update, write_report
from remoteviews.server import Server, replay

PERCENT = chr(37)
TEXT = page_text("element row", "  attr tone = resource(\"tone\")", "  on buy(x)", "    expect n", "    set n = add(n, 1)",
                 "  on keep(x)", "    set s = x", "  on fail(x)", "    set s = sub(0, 1)", "  element cell",
                 "    on look(x)", "      emit keep(x)", "  text concat(n, s)", shared=("n = 1",), states=('s = ""',),
                 layers="main")
SAFE = TEXT.replace('resource("tone")', "none")
START = Server("shop", SAFE).log()[0]
RICH = page_text("suspense", '  for k v in resource("rows") offset n limit 2', "    use part(k, v)", "fallback",
                 "  use part(\"?\", 0)", "suspense", "  try", '    text get(resource("rows"), "b")', "  catch m",
                 "    text m", "portal top",
                 "  element box", "    on next(x)", "      set n = add(n, 1)", "    on back(x)", "      set n = sub(n, 1)",
                 shared=("n = 0",), ahead=("component part(k, v)", '  state s = v', "  element row", "    attr key = k",
                                           "    on set(x)", "      expect s", "      set s = x", "    text s"))
OTHER = page_text("text n", "use part()", shared=("n = 0", "m = 5"), ahead=("component part()", "  text m"))


def seen(server):
    """All that a server tells, but what is saved and what goes out."""
    clients = server.clients()
    return ([server.session(client) for client in clients], [server.outcomes(client) for client in clients],
            server.shared(), server.log(), clients)


def event(sequence, version, node, name, scalar=NONE):
    return (sequence, version, node, name, scalar)


def report(server, client, *events):
    return server.receive(write_report(("shop", client, server.session(client)[0], events)))


def history():
    """What a server tells behind each line of its log, that is, behind each of these deeds."""
    server = Server("shop", RICH)
    told = [seen(server)]

    def note(_):
        told.append(seen(server))

    note(server.connect())
    note(server.connect())
    note(server.dispatch(2, 7, "next", NONE))
    note(server.resolve("rows", entries(a=whole(1), b=whole(2), c=whole(3), d=whole(4))))
    rows = [row for row in server.session(1)[3][0][3] if row[0] == "element"]
    note(report(server, 1, event(1, server.session(1)[0], rows[0][1], "set", words("x"))))
    note(report(server, 1, event(2, server.session(1)[0], rows[1][4][0][1], "set", TRUE)))
    note(report(server, 1, event(3, 1, rows[1][1], "set")))
    note(server.connect())
    note(server.disconnect(2))
    box = server.session(1)[3][1][3][0]
    note(server.dispatch(1, box[1], "next", NONE))
    note(report(server, 3, event(1, 0, 5, "next")))
    note(report(server, 3, event(2, server.session(3)[0], server.session(3)[3][1][3][0][1], "back")))
    note(server.resolve("rows", entries(b=whole(7))))
    note(server.replace(OTHER))
    note(report(server, 1, event(4, server.session(1)[0], 999, "next")))
    note(server.replace(RICH))
    note(server.connect())
    return server.log(), told


class Beginnings(unittest.TestCase):
    def test_history(self):
        log, told = history()
        self.assertEqual([line.split(" ")[0] for line in log],
                         ["start", "connect", "connect", "event", "resolve", "event", "event", "discard", "connect",
                          "disconnect", "event", "discard", "event", "resolve", "replace", "discard", "replace", "connect"])
        self.assertEqual(len(told), len(log))
        self.assertEqual([state[3] for state in told], [log[:count] for count in range(1, len(log) + 1)])

    def test_each_beginning(self):
        log, told = history()
        for count in range(1, len(log) + 1):
            server = replay(log[:count])
            self.assertEqual(seen(server), told[count - 1], count)
            self.assertEqual(server.saved(), count)

    def test_a_server_goes_on(self):
        one = Server("shop", SAFE)
        one.connect()
        one.dispatch(1, 5, "keep", words("x"))
        other = replay(one.log())
        for server in (one, other):
            self.assertEqual(server.connect(), 2)
            self.assertEqual(server.dispatch(1, 5, "buy", NONE), "applied")
            self.assertEqual(report(server, 2, event(1, 1, 5, "keep", TRUE)), ["applied"])
        self.assertEqual(seen(one), seen(other))
        self.assertEqual(one.update(1), other.update(1))

    def test_no_version_was_reported(self):
        server = Server("shop", SAFE)
        server.connect()
        server.dispatch(1, 5, "buy", NONE)
        report(server, 1)
        self.assertEqual(read_update(server.update(1))[2:4], (2, 2))
        self.assertEqual(read_update(replay(server.log()).update(1))[2:4], (0, 2))

    def test_all_lines_are_saved(self):
        server = replay([START])
        self.assertEqual((server.saved(), server.log(), server.clients()), (1, [START], []))
        server.resolve("x", NONE)
        self.assertEqual((server.saved(), len(server.log())), (1, 2))

    def test_the_name(self):
        server = replay([START.replace("shop", "other"), "connect"])
        self.assertTrue(server.update(1).startswith("update other 1 "))

    def test_the_lines_are_not_changed(self):
        lines = [START, "connect"]
        server = replay(lines)
        server.connect()
        lines.append("connect")
        # Each has its own third line.
        self.assertEqual((lines, server.log()), ([START, "connect", "connect"], [START, "connect", "connect"]))


class Refused(unittest.TestCase):
    """Each line is put behind lines that can be done: the refusal tells its number."""

    # A row (5) with handlers, a cell (6) in it, a text (7) in the row; two outcomes of the client 1.
    AHEAD = [START, "connect", "connect", "event 1 1 5 keep 1", "discard 1 2 stale", "disconnect 2"]

    def assert_refused(self, kind, number, lines):
        with self.assertRaises(kind, msg=str(lines)) as found:
            replay(lines)
        self.assertEqual((type(found.exception), found.exception.line), (kind, number), lines)

    def assert_next(self, *lines):
        server = replay(self.AHEAD + list(lines))
        self.assertEqual(server.log(), self.AHEAD + list(lines))

    def assert_not_next(self, line):
        self.assert_refused(NotNext, len(self.AHEAD) + 1, self.AHEAD + [line])
        self.assert_refused(NotNext, len(self.AHEAD) + 1, self.AHEAD + [line, "no entry"])

    def test_no_lines(self):
        self.assert_refused(NotNext, 1, [])

    def test_no_entries(self):
        for line in ("", "connect ", " connect", "Connect", "resolve \"x\"", "event 1 0 05 keep none", "begin",
                     "disconnect 1000000000", "discard 1 3 lost", 'resolve "x" map("a",1)', "connect\n"):
            self.assert_refused(BadEntry, 1, [line])
            self.assert_refused(BadEntry, 7, self.AHEAD + [line])
            self.assert_refused(BadEntry, 7, self.AHEAD + [line, "connect 1"])

    def test_a_first_line_that_is_no_start(self):
        for line in ("connect", "disconnect 1", 'resolve "x" none', START.replace("start shop", "replace"),
                     "discard 1 1 stale", "event 1 0 5 keep none"):
            self.assert_refused(NotNext, 1, [line])
            self.assert_refused(NotNext, 1, [line, START])

    def test_another_start(self):
        self.assert_not_next(START)
        self.assert_refused(NotNext, 2, [START, START])

    def test_start_without_a_template_in_its_written_form(self):
        for text in ("", "layers main", "layers main\\ncomponent page( me)", "layers  main\\ncomponent page(me)",
                     "layers main\\ncomponent page(me)\\n", "layers main\\ncomponent page(me)\\n  text n",
                     "layers main\\ncomponent page(me) ", "x"):
            self.assert_refused(NotNext, 1, [f'start shop "{text}"'])
        self.assertEqual(len(replay(['start shop "layers main\\ncomponent page(me)"']).log()), 1)

    def test_a_fifth_client(self):
        self.assert_refused(NotNext, 6, [START] + ["connect"] * 5)
        self.assertEqual(replay([START] + ["connect"] * 4).clients(), [1, 2, 3, 4])
        lines = [START] + ["connect"] * 4 + ["disconnect 3", "connect"]
        self.assertEqual(replay(lines).clients(), [1, 2, 4, 5])
        self.assert_refused(NotNext, 8, lines + ["connect"])

    def test_clients_that_are_not_connected(self):
        for client in (0, 2, 3, 999999999):
            for line in ("disconnect {}", "event {} 0 5 keep none", "event {} 1 5 keep none", "discard {} 1 stale"):
                self.assert_not_next(line.format(client))
        self.assert_next("disconnect 1")
        self.assert_refused(NotNext, 8, self.AHEAD + ["disconnect 1", "disconnect 1"])

    def test_resource_names(self):
        for name in ("", "x" * 41, "a\\nb", "\\n"):
            self.assert_not_next(f'resolve "{name}" none')
        for name in ("x", "x" * 40, " ", '\\"', "\\\\n"):
            self.assert_next(f'resolve "{name}" none')
        self.assert_refused(BadEntry, 7, self.AHEAD + [f'resolve "a{PERCENT}" none'])

    def test_another_template(self):
        for text in ("", "layers main", "layers main\\ncomponent page( me)", "layers main\\ncomponent page(me)\\n  text n",
                     "layers top\\ncomponent page(me)", "layers main, top\\ncomponent page(me)",
                     "layers main\\ncomponent page(me)\\n"):
            self.assert_not_next(f'replace "{text}"')
        self.assert_next('replace "layers main\\ncomponent page(me)"')
        self.assert_next('replace "layers main\\ncomponent page(me)\\n  text me"', "connect")

    def test_layers_in_another_order(self):
        start = 'start shop "layers main, top\\ncomponent page(me)"'
        self.assert_refused(NotNext, 2, [start, 'replace "layers top, main\\ncomponent page(me)"'])
        self.assertEqual(len(replay([start, 'replace "layers main, top\\ncomponent page(me)"']).log()), 2)

    def test_events_that_are_applied(self):
        self.assert_next("event 1 0 5 keep none", "event 1 3 5 keep true", "event 1 0 5 buy none", "event 1 4 6 look 3",
                         "event 1 5 5 buy none")

    def test_events_at_nodes_that_do_not_handle_them(self):
        # The text and the cell are in the row that handles it: but it must be exactly this element.
        for node in (6, 7, 1, 0, 8, 999999999):
            self.assert_not_next(f"event 1 0 {node} keep none")
            self.assert_not_next(f"event 1 3 {node} keep none")
        self.assert_not_next("event 1 0 5 look none")
        self.assert_not_next("event 1 3 5 bye none")

    def test_events_that_fail(self):
        self.assert_not_next("event 1 0 5 fail none")
        self.assert_not_next("event 1 3 5 fail none")

    def test_events_in_older_drawings(self):
        start = Server("shop", page_text("if lt(n, 2)", "  element row", "    on buy(x)", "      set n = 5", layers="main",
                                         shared=("n = 1",))).log()[0]
        self.assertEqual(len(replay([start, "connect", "event 1 0 5 buy none"]).log()), 3)
        self.assert_refused(NotNext, 4, [start, "connect", "event 1 0 5 buy none", "event 1 0 5 buy none"])

    def test_sequences_of_events(self):
        for sequence in (1, 2, 4, 5, 999999999):
            self.assert_not_next(f"event 1 {sequence} 5 keep none")
        self.assert_next("event 1 0 5 keep none", "event 1 3 5 keep none")
        self.assert_refused(NotNext, 8, self.AHEAD + ["event 1 3 5 keep none", "event 1 3 5 keep none"])

    def test_sequences_of_discards(self):
        for sequence in (0, 1, 2, 4, 999999999):
            self.assert_not_next(f"discard 1 {sequence} failed")
        for outcome in ("failed", "unhandled", "stale", "removed", "conflict"):
            self.assert_next(f"discard 1 3 {outcome}", "discard 1 4 stale")
            self.assertEqual(replay(self.AHEAD + [f"discard 1 3 {outcome}"]).outcomes(1), ["applied", "stale", outcome])

    def test_an_applied_discard(self):
        self.assert_not_next("discard 1 3 applied")
        self.assert_not_next("discard 1 0 applied")

    def test_lines_are_done_one_behind_the_other(self):
        self.assert_refused(NotNext, 2, [START, "disconnect 1", "no entry"])
        self.assert_refused(BadEntry, 2, [START, "no entry", "disconnect 1"])
        self.assert_refused(BadEntry, 1, ["no entry"])

    def test_sequences_of_each_client(self):
        lines = [START, "connect", "connect", "event 2 1 5 keep 1", "event 1 1 5 keep 1", "discard 2 2 stale"]
        server = replay(lines)
        self.assertEqual((server.outcomes(1), server.outcomes(2)), (["applied"], ["applied", "stale"]))
        self.assert_refused(NotNext, 7, lines + ["discard 1 3 stale"])


class Long(unittest.TestCase):
    def test_many_lines(self):
        text = page_text("for k v in %s offset n limit 3" % EIGHT, "  element row", "    on go(x)", "      set n = x",
                         "    text v", layers="main", shared=("n = 0",))
        server = Server("shop", text)
        for _ in range(4):
            server.connect()
        told = {}
        for number in range(40):
            client = number // 7 - number // 28 * 4 + 1
            row = server.session(client)[3][0][3][0]
            self.assertEqual(server.dispatch(client, row[1], "go", whole(number * number - number * number // 6 * 6)),
                             "applied")
            told[len(server.log())] = seen(server)
        for count in told:
            self.assertEqual(seen(replay(server.log()[:count])), told[count])


if __name__ == "__main__":
    unittest.main()
