"""w1: worlds, their wires, and servers that stop."""

import unittest

from pages import NONE, page_text, whole, words
from remoteviews.client import View
from remoteviews.errors import BadArgument, BadTemplate
from remoteviews.server import Server
from remoteviews.world import World

# Version 1 of each client: a row (5) that handles buy and give, with n as a text (6).
SHOP = page_text("element row", "  on buy(x)", "    expect n", "    set n = add(n, 1)", "  on give(x)", "    set n = x",
                 "  text n", shared=("n = 1",), layers="main")


def world(clients=1):
    made = World("shop", SHOP)
    for _ in range(clients):
        made.connect()
    return made


def shown(view):
    """The version that a view displays, and the text in it."""
    return (view.version(), view.tree()[0][3][0][4][0][2] if view.tree() else None)


class Tests(unittest.TestCase):
    def assert_refused(self, reason, call, *arguments):
        with self.assertRaises(BadArgument) as seen:
            call(*arguments)
        self.assertEqual(seen.exception.reason, reason)


class Begin(Tests):
    def test_at_first(self):
        made = World("shop", SHOP)
        self.assertIsInstance(made.server, Server)
        self.assertEqual((made.views, made.wire(), made.server.log()), ({}, [], Server("shop", SHOP).log()))

    def test_raises_as_the_server(self):
        self.assert_refused("name", World, "Shop", "")
        with self.assertRaises(BadTemplate):
            World("shop", "")

    def test_connect(self):
        made = World("shop", SHOP)
        self.assertEqual([made.connect() for _ in range(4)], [1, 2, 3, 4])
        self.assertEqual((list(made.views), made.server.clients(), made.wire()), ([1, 2, 3, 4], [1, 2, 3, 4], []))
        for client, view in made.views.items():
            self.assertIsInstance(view, View)
            self.assertEqual(view.report(), f"events shop {client} version 0\nend")
        self.assert_refused("clients", made.connect)
        self.assertEqual(list(made.views), [1, 2, 3, 4])

    def test_disconnect(self):
        made = world(2)
        made.disconnect(1)
        self.assertEqual((list(made.views), made.server.clients()), ([1, 2], [2]))
        self.assert_refused("client", made.disconnect, 1)
        self.assert_refused("client", made.disconnect, 3)
        self.assertEqual((made.connect(), list(made.views)), (3, [1, 2, 3]))


class Wire(Tests):
    def test_updates(self):
        made = world(2)
        made.update(2)
        made.update(1)
        self.assertEqual(made.wire(), [(2, made.server.update(2)), (1, made.server.update(1))])
        self.assert_refused("client", made.update, 3)
        self.assertEqual(len(made.wire()), 2)
        made.deliver(0)
        self.assertEqual((shown(made.views[1]), shown(made.views[2]), len(made.wire())), ((0, None), (1, "1"), 1))
        made.deliver(0)
        self.assertEqual((shown(made.views[1]), made.wire()), ((1, "1"), []))

    def test_updates_are_saved(self):
        made = world()
        made.server.dispatch(1, 5, "buy", NONE)
        self.assertEqual(made.server.saved(), 2)
        made.update(1)
        self.assertEqual(made.server.saved(), 3)

    def test_updates_of_clients_that_are_not_connected(self):
        made = world()
        made.update(1)
        made.disconnect(1)
        self.assert_refused("client", made.update, 1)
        # What is on its way comes in.
        made.deliver(0)
        self.assertEqual(shown(made.views[1]), (1, "1"))

    def test_reports(self):
        made = world()
        made.update(1)
        made.deliver(0)
        made.views[1].queue(6, "give", words("x"))
        made.report(1)
        self.assertEqual(made.wire(), [(0, made.views[1].report())])
        self.assertEqual(made.server.outcomes(1), [])
        made.deliver(0)
        self.assertEqual((made.server.outcomes(1), made.server.shared(), made.wire()),
                         (["applied"], {"n": words("x")}, []))

    def test_a_report_tells_what_was_when_it_was_made(self):
        made = world()
        made.update(1)
        made.deliver(0)
        made.report(1)
        made.views[1].queue(6, "give", words("x"))
        made.deliver(0)
        self.assertEqual(made.server.outcomes(1), [])

    def test_reports_of_clients_that_are_not_connected_are_lost(self):
        made = world(2)
        made.update(1)
        made.deliver(0)
        made.views[1].queue(6, "buy", NONE)
        made.report(1)
        made.disconnect(1)
        made.report(1)
        before = made.server.log()
        made.deliver(0)
        made.deliver(0)
        self.assertEqual((made.server.log(), made.wire()), (before, []))

    def test_the_client_of_a_report_counts(self):
        # Both clients display the version 1: as a client, only one of them is connected.
        for gone, left in ((1, 2), (2, 1)):
            made = world(2)
            for client in (1, 2):
                made.update(client)
                made.deliver(0)
                made.views[client].queue(5, "give", words("x"))
            made.disconnect(gone)
            made.report(gone)
            made.deliver(0)
            self.assertEqual(made.server.shared(), {"n": whole(1)})
            made.report(left)
            made.deliver(0)
            self.assertEqual((made.server.outcomes(left), made.server.shared()), (["applied"], {"n": words("x")}))

    def test_drop(self):
        made = world(3)
        for client in (1, 2, 3):
            made.update(client)
        made.drop(1)
        self.assertEqual([receiver for receiver, _ in made.wire()], [1, 3])
        made.drop(1)
        made.drop(0)
        self.assertEqual((made.wire(), [view.version() for view in made.views.values()]), ([], [0, 0, 0]))

    def test_double(self):
        made = world(2)
        made.update(1)
        made.update(2)
        made.double(0)
        self.assertEqual([receiver for receiver, _ in made.wire()], [1, 2, 1])
        self.assertEqual(made.wire()[0], made.wire()[2])
        made.double(1)
        self.assertEqual([receiver for receiver, _ in made.wire()], [1, 2, 1, 2])

    def test_doubled_reports_are_decided_once(self):
        made = world()
        made.update(1)
        made.deliver(0)
        made.views[1].queue(6, "give", words("x"))
        made.report(1)
        made.double(0)
        made.deliver(1)
        made.deliver(0)
        self.assertEqual((made.server.outcomes(1), made.server.log()[2:]), (["applied"], ['event 1 1 5 give "x"']))

    def test_deliver_in_any_order(self):
        made = world()
        for number in (1, 2, 3):
            made.update(1)
            made.server.dispatch(1, 5, "give", whole(10 + number))
        made.update(1)
        made.deliver(2)
        self.assertEqual((shown(made.views[1]), len(made.wire())), ((3, "12"), 3))
        made.deliver(0)
        self.assertEqual(shown(made.views[1]), (3, "12"))
        made.deliver(1)
        self.assertEqual(shown(made.views[1]), (4, "13"))
        made.deliver(0)
        self.assertEqual((shown(made.views[1]), made.wire()), ((4, "13"), []))

    def test_the_list_is_new(self):
        made = world()
        made.update(1)
        made.wire().clear()
        self.assertEqual(len(made.wire()), 1)
        self.assertIsInstance(made.wire(), list)


class Stop(Tests):
    def made(self):
        """A world whose log has 6 lines, of which 3 are saved."""
        made = world()
        made.server.resolve("x", NONE)
        made.update(1)
        for number in (7, 8, 9):
            made.server.dispatch(1, 5, "give", whole(number))
        self.assertEqual((len(made.server.log()), made.server.saved()), (6, 3))
        return made

    def test_at_any_count(self):
        for count, left in ((0, 3), (1, 3), (2, 3), (3, 3), (4, 4), (5, 5), (6, 6), (7, 6), (300, 6)):
            made = self.made()
            log = made.server.log()
            made.stop(count)
            self.assertEqual((made.server.log(), made.server.saved()), (log[:left], left))
            self.assertEqual(made.server.shared(), {"n": whole((1, 7, 8, 9)[left - 3])})
            self.assertEqual((len(made.wire()), list(made.views)), (1, [1]))

    def test_a_log_of_which_nothing_is_saved(self):
        for count, left in ((0, 1), (1, 1), (2, 2), (3, 2)):
            made = World("shop", SHOP)
            made.server.resolve("x", NONE)
            made.stop(count)
            self.assertEqual((len(made.server.log()), made.server.saved()), (left, left))

    def test_no_version_was_reported(self):
        made = world()
        made.update(1)
        made.deliver(0)
        made.report(1)
        made.deliver(0)
        made.update(1)
        self.assertTrue(made.wire()[0][1].startswith("update shop 1 from 1 to 1 "))
        made.stop(0)
        made.update(1)
        self.assertTrue(made.wire()[1][1].startswith("update shop 1 from 0 to 1 "))

    def test_what_was_not_saved_is_reported_again(self):
        made = world()
        made.update(1)
        made.deliver(0)
        made.views[1].queue(6, "give", words("x"))
        made.report(1)
        made.deliver(0)
        self.assertEqual(made.server.outcomes(1), ["applied"])
        made.stop(0)
        self.assertEqual((made.server.outcomes(1), made.server.shared()), ([], {"n": whole(1)}))
        made.report(1)
        made.deliver(0)
        made.update(1)
        made.deliver(0)
        self.assertEqual((made.views[1].outcomes(), shown(made.views[1])), (["applied"], (2, "x")))

    def test_a_client_comes_back_that_was_disconnected(self):
        made = world(2)
        made.disconnect(2)
        made.stop(0)
        self.assertEqual((made.server.clients(), list(made.views)), ([1, 2], [1, 2]))
        made.update(2)
        made.deliver(0)
        self.assertEqual(shown(made.views[2]), (1, "1"))
        self.assertEqual(made.connect(), 3)

    def test_a_server_goes_on_behind_it(self):
        made = self.made()
        made.stop(4)
        made.update(1)
        made.deliver(1)
        self.assertEqual(shown(made.views[1]), (2, "7"))
        made.server.dispatch(1, 5, "give", whole(50))
        made.update(1)
        made.deliver(1)
        self.assertEqual(shown(made.views[1]), (3, "50"))
        made.deliver(0)
        self.assertEqual(shown(made.views[1]), (3, "50"))


if __name__ == "__main__":
    unittest.main()
