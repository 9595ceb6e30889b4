"""k1, k2: views, what updates bring them and what they report."""

import unittest

from pages import NONE, TRUE, whole, words
from remoteviews.client import View
from remoteviews.errors import BadArgument, BadMessage, BadPatch
from remoteviews.messages import read_report, write_report, write_update
from remoteviews.trees import apply_patch

FIRST = (("layer", 1, "main"), ("element", 5, 1, 0, "row"), ("text", 6, 5, 0, "a"))
TREE = (("layer", 1, "main", (("element", 5, "row", (), (("text", 6, "a"),)),)),)
# Patches that do not apply to the tree, nor to the empty one.
BAD_PATCHES = [(("remove", 9),), (("content", 5, "x"),), (("layer", 5, "top"),), (("layer", 2, "top"), ("move", 9, 0))]


def update(version, patch=(), base=0, first=1, outcomes=(), server="shop", client=1):
    return write_update((server, client, base, version, first, tuple(outcomes), tuple(patch)))


def displaying(version=3, events=0, known=0):
    """A view that displays the tree under a version, and has events of which some have known outcomes."""
    view = View("shop", 1)
    view.receive(update(version, FIRST))
    for number in range(events):
        view.queue(6, "buy", whole(number))
    if known:
        view.receive(update(1, first=1, outcomes=["applied"] * known))
    return view


def told(view):
    return (view.tree(), view.version(), view.outcomes(), view.outstanding(), view.report())


class Tests(unittest.TestCase):
    def assert_refused(self, reason, call, *arguments):
        with self.assertRaises(BadArgument) as seen:
            call(*arguments)
        self.assertEqual(seen.exception.reason, reason)


class New(Tests):
    def test_at_first(self):
        view = View("shop", 7)
        self.assertEqual(told(view), ((), 0, [], 0, "events shop 7 version 0\nend"))


class Receive(Tests):
    def assert_raises(self, error, view, text):
        before = told(view)
        with self.assertRaises(error) as seen:
            view.receive(text)
        self.assertEqual(told(view), before)
        return seen.exception

    def test_from_the_empty_tree(self):
        view = View("shop", 1)
        self.assertEqual(view.receive(update(3, FIRST)), "applied")
        self.assertEqual((view.tree(), view.version()), (TREE, 3))

    def test_from_the_displayed_tree(self):
        view = displaying(3)
        self.assertEqual(view.receive(update(4, [("content", 6, "b")], base=3)), "applied")
        self.assertEqual((view.tree(), view.version()), (apply_patch(TREE, (("content", 6, "b"),)), 4))
        self.assertEqual(view.receive(update(9, [("remove", 5)], base=4)), "applied")
        self.assertEqual((view.tree(), view.version()), ((("layer", 1, "main", ()),), 9))

    def test_base_0_stands_for_the_empty_tree(self):
        view = displaying(3)
        self.assertEqual(view.receive(update(5, [("layer", 1, "main"), ("text", 7, 1, 0, "x")])), "applied")
        self.assertEqual((view.tree(), view.version()), ((("layer", 1, "main", (("text", 7, "x"),)),), 5))

    def test_stale(self):
        for version in (1, 2, 3):
            for base in (0, 1, version):
                view = displaying(3)
                self.assertEqual(view.receive(update(version, [("remove", 5)], base=base)), "stale")
                self.assertEqual((view.tree(), view.version()), (TREE, 3))

    def test_gap(self):
        for base in (1, 2, 4, 5):
            view = displaying(3)
            self.assertEqual(view.receive(update(5, [("remove", 5)], base=base)), "gap")
            self.assertEqual((view.tree(), view.version()), (TREE, 3))

    def test_a_gap_of_a_new_view(self):
        view = View("shop", 1)
        self.assertEqual(view.receive(update(2, [], base=1)), "gap")
        self.assertEqual((view.tree(), view.version()), ((), 0))

    def test_patches_of_stale_ones_and_gaps_are_not_applied(self):
        for patch in BAD_PATCHES:
            self.assertEqual(displaying(3).receive(update(3, patch, base=3)), "stale")
            self.assertEqual(displaying(3).receive(update(5, patch, base=4)), "gap")

    def test_bad_messages(self):
        view = displaying(3, 2, 1)
        for text in ("", "end", update(4) + "\n", update(4).replace(" ", "  ", 1), view.report(),
                     "update other 9 from 0 to 0 outcomes 1\nend", "update shop 1 from 2 to 1 outcomes 1\nend"):
            self.assert_raises(BadMessage, view, text)

    def test_another_server_or_client(self):
        view = displaying(3, 2, 1)
        for more in ({"server": "other"}, {"client": 2}, {"client": 0}, {"server": "other", "client": 2}):
            for base, patch in ((3, ()), (3, BAD_PATCHES[0]), (2, ())):
                text = update(4, patch, base=base, outcomes=["applied"] * 2, **more)
                self.assertEqual(self.assert_raises(BadArgument, view, text).reason, "other")

    def test_a_patch_that_does_not_apply(self):
        for patch in BAD_PATCHES:
            for base in (0, 3):
                view = displaying(3, 4, 1)
                text = update(4, patch, base=base, first=1, outcomes=["applied"] * 3)
                self.assert_raises(BadPatch, view, text)
                # The same outcomes come in with a patch that applies.
                view.receive(update(4, base=3, first=1, outcomes=["applied"] * 3))
                self.assertEqual(view.outcomes(), ["applied"] * 3)

    def test_a_patch_that_applies_in_part(self):
        view = displaying(3, 1)
        self.assert_raises(BadPatch, view, update(4, [("content", 6, "b"), ("remove", 9)], base=3))
        self.assertEqual(view.tree(), TREE)


class Outcomes(Tests):
    SIX = ["applied", "failed", "unhandled", "stale", "removed", "conflict"]

    def test_of_all_three_answers(self):
        for version, base, answer in ((4, 3, "applied"), (4, 0, "applied"), (3, 3, "stale"), (1, 0, "stale"),
                                      (5, 4, "gap")):
            view = displaying(3, 6)
            patch = FIRST if base == 0 else ()
            self.assertEqual(view.receive(update(version, patch, base=base, outcomes=self.SIX)), answer)
            self.assertEqual((view.outcomes(), view.outstanding()), (self.SIX, 0))

    def test_those_behind_the_known_ones(self):
        view = displaying(3, 6)
        view.receive(update(1, outcomes=self.SIX[:2]))
        self.assertEqual(view.outcomes(), self.SIX[:2])
        view.receive(update(1, first=2, outcomes=self.SIX[1:4]))
        self.assertEqual(view.outcomes(), self.SIX[:4])
        view.receive(update(1, first=5, outcomes=self.SIX[4:]))
        self.assertEqual((view.outcomes(), view.outstanding()), (self.SIX, 0))

    def test_known_ones_stay(self):
        view = displaying(3, 6, 3)
        view.receive(update(1, first=1, outcomes=["failed"] * 4))
        self.assertEqual(view.outcomes(), ["applied"] * 3 + ["failed"])
        view.receive(update(1, first=3, outcomes=["stale"]))
        view.receive(update(1, first=1, outcomes=["stale"] * 3))
        view.receive(update(1, first=1))
        self.assertEqual(view.outcomes(), ["applied"] * 3 + ["failed"])

    def test_not_with_a_hole(self):
        view = displaying(3, 6, 2)
        for first in (4, 5, 6, 999999999):
            view.receive(update(1, first=first, outcomes=["failed"]))
            self.assertEqual((view.outcomes(), view.outstanding()), (["applied"] * 2, 4))
        view.receive(update(1, first=3, outcomes=["failed"]))
        self.assertEqual(view.outcomes(), ["applied"] * 2 + ["failed"])

    def test_as_far_as_there_are_such_events(self):
        view = displaying(3, 3, 1)
        view.receive(update(1, first=2, outcomes=["failed"] * 5))
        self.assertEqual((view.outcomes(), view.outstanding()), (["applied", "failed", "failed"], 0))
        view.queue(6, "buy", NONE)
        self.assertEqual((view.outcomes(), view.outstanding()), (["applied", "failed", "failed"], 1))
        view = View("shop", 1)
        view.receive(update(1, FIRST, outcomes=self.SIX))
        self.assertEqual((view.outcomes(), view.outstanding()), ([], 0))

    def test_eight_at_once(self):
        view = displaying(3, 8)
        view.receive(update(1, outcomes=["stale"] * 8))
        self.assertEqual((len(view.outcomes()), view.outstanding()), (8, 0))


class Queue(Tests):
    def test_sequences(self):
        view = displaying(3)
        self.assertEqual([view.queue(6, "buy", NONE) for _ in range(8)], [1, 2, 3, 4, 5, 6, 7, 8])
        view.receive(update(1, outcomes=["stale"] * 3))
        self.assertEqual([view.queue(5, "buy", NONE) for _ in range(3)], [9, 10, 11])

    def test_nodes_of_the_displayed_tree(self):
        view = displaying(3)
        for node in (1, 5, 6):
            view.queue(node, "buy", NONE)
        for node in (0, 2, 3, 4, 7, 999999999):
            self.assert_refused("node", view.queue, node, "buy", NONE)
        self.assert_refused("node", View("shop", 1).queue, 1, "buy", NONE)

    def test_events(self):
        view = displaying(3)
        for name in ("a", "a23456789012", "none", "map"):
            view.queue(5, name, NONE)
        for name in ("", "Buy", "1a", "a b", "a234567890123", "a\n"):
            self.assert_refused("event", view.queue, 5, name, NONE)

    def test_scalars(self):
        view = displaying(3)
        for scalar in (NONE, TRUE, whole(0), whole(999999), words(""), words("x" * 40)):
            view.queue(5, "buy", scalar)
        for scalar in (("map", ()), whole(1000000), words("x" * 41), words("a\nb"), words("a" + chr(37)), ("real", 1),
                       ("none", 1), ("int", "1"), (), "none"):
            self.assert_refused("scalar", view.queue, 5, "buy", scalar)

    def test_at_most_eight_are_open(self):
        view = displaying(3, 8)
        self.assert_refused("open", view.queue, 5, "buy", NONE)
        view.receive(update(1, outcomes=["stale"]))
        self.assertEqual(view.queue(5, "buy", NONE), 9)
        self.assert_refused("open", view.queue, 5, "buy", NONE)

    def test_refusals_in_their_order(self):
        view = displaying(3, 8)
        self.assert_refused("node", view.queue, 9, "Buy", ("map", ()))
        self.assert_refused("event", view.queue, 5, "Buy", ("map", ()))
        self.assert_refused("scalar", view.queue, 5, "buy", ("map", ()))
        self.assert_refused("open", view.queue, 5, "buy", NONE)

    def test_a_refused_one_changes_nothing(self):
        view = displaying(3, 8)
        before = told(view)
        self.test_refusals_in_their_order()
        for arguments in ((9, "buy", NONE), (5, "Buy", NONE), (5, "buy", ("map", ())), (5, "buy", NONE)):
            with self.assertRaises(BadArgument):
                view.queue(*arguments)
        self.assertEqual(told(view), before)


class Report(Tests):
    def test_all_open_events(self):
        view = displaying(3)
        view.queue(6, "buy", NONE)
        view.receive(update(4, [("content", 6, "b")], base=3))
        view.queue(1, "look", words('a "b"'))
        view.queue(5, "set", whole(7))
        # Each tells the version that was displayed when it was queued.
        self.assertEqual(view.report(), "events shop 1 version 4\nevent 1 version 3 node 6 buy none\n"
                         'event 2 version 4 node 1 look "a \\"b\\""\nevent 3 version 4 node 5 set 7\nend')
        view.receive(update(1, outcomes=["stale", "stale"]))
        self.assertEqual(view.report(), "events shop 1 version 4\nevent 3 version 4 node 5 set 7\nend")
        view.receive(update(1, outcomes=["stale"] * 3))
        self.assertEqual(view.report(), "events shop 1 version 4\nend")

    def test_is_a_report(self):
        view = displaying(3, 8)
        report = read_report(view.report())
        self.assertEqual((report[:3], len(report[3])), (("shop", 1, 3), 8))
        self.assertEqual(write_report(report), view.report())

    def test_changes_nothing(self):
        view = displaying(3, 2)
        before = told(view)
        view.report()
        self.assertEqual(told(view), before)
        self.assertEqual(view.outstanding(), 2)


class Told(Tests):
    def test_what_is_handed_out_is_new(self):
        view = displaying(3, 2, 1)
        before = told(view)
        view.outcomes().append("x")
        self.assertEqual(told(view), before)
        self.assertIsInstance(view.outcomes(), list)

    def test_views_share_nothing(self):
        view = displaying(3, 2, 1)
        self.assertEqual(told(View("shop", 1))[:4], ((), 0, [], 0))
        self.assertEqual(told(view)[1:4], (3, ["applied"], 1))


if __name__ == "__main__":
    unittest.main()
