"""i4, e3: versions of a session, and how events are decided."""

import unittest

from pages import NONE, TRUE, entries, page, step, whole, words
from remoteviews.sessions import Session

EMPTY = (("layer", 1, "main", ()), ("layer", 2, "top", ()))


def tree(*children):
    return (("layer", 1, "main", children), ("layer", 2, "top", ()))


def event(version, node, name="buy", scalar=NONE, sequence=1):
    return (sequence, version, node, name, scalar)


class New(unittest.TestCase):
    def test_fields(self):
        session = Session(3)
        self.assertEqual(session.client, 3)
        self.assertEqual((session.instances, session.versions, session.nodes, session.ids), ((), [], (), ()))
        self.assertEqual((session.problem, session.outcomes, session.reported), (None, [], 0))

    def test_newest_and_kept(self):
        session = Session(1)
        self.assertEqual(session.newest(), (0, ((), ())))
        self.assertIsNone(session.kept(0))
        self.assertIsNone(session.kept(1))

    def test_sessions_share_nothing(self):
        one = Session(1)
        one.outcomes.append("applied")
        one.draw(page('text "a"'), {}, {})
        other = Session(2)
        self.assertEqual((other.outcomes, other.versions), ([], []))


class Draw(unittest.TestCase):
    def test_first_drawing(self):
        session = Session(2)
        template = page("element row", "  text me", "  use part()", ahead=("component part()", "  state s = 1"))
        self.assertIsNone(session.draw(template, {}, {}))
        self.assertEqual(session.instances, (((), 1, "page", ()), ((step(2),), 2, "part", (("s", whole(1)),))))
        self.assertEqual(session.ids, (5, 6))
        self.assertEqual([node[3] for node in session.nodes], ["row", "2"])
        self.assertIsNone(session.problem)
        drawing = (tree(("element", 5, "row", (), (("text", 6, "2"),))), ((5, 0, ()), (6, 5, ())))
        self.assertEqual(session.versions, [(1, drawing)])
        self.assertEqual(session.newest(), (1, drawing))
        self.assertEqual(session.kept(1), drawing)
        self.assertIsNone(session.kept(0))
        self.assertIsNone(session.kept(2))

    def test_without_nodes(self):
        session = Session(1)
        session.draw(page(), {}, {})
        self.assertEqual(session.versions, [(1, (EMPTY, ()))])
        self.assertEqual(session.instances, (((), 1, "page", ()),))

    def test_an_equal_drawing_keeps_the_version(self):
        session = Session(1)
        template = page("text n", shared=("n = 1",))
        for _ in range(3):
            session.draw(template, {"n": whole(1)}, {})
            self.assertEqual([version for version, _ in session.versions], [1])

    def test_an_equal_drawing_of_another_template(self):
        session = Session(1)
        session.draw(page("text n", shared=("n = 1",)), {"n": whole(1)}, {})
        session.draw(page('text "1"', shared=("n = 1",)), {"n": whole(1)}, {})
        self.assertEqual(session.newest()[0], 1)
        self.assertEqual(session.nodes[0][9], (("me", whole(1)), ("n", whole(1))))

    def test_another_drawing_goes_on(self):
        session = Session(1)
        template = page("text n", shared=("n = 1",))
        for number, version in [(1, 1), (2, 2), (2, 2), (1, 3)]:
            session.draw(template, {"n": whole(number)}, {})
            self.assertEqual(session.newest()[0], version)
        self.assertEqual(session.ids, (5,))
        self.assertEqual(session.kept(1), session.kept(3))

    def test_other_expected_values_are_another_drawing(self):
        session = Session(1)
        template = page("element row", "  on buy(x)", "    expect n", shared=("n = 1",))
        session.draw(template, {"n": whole(1)}, {})
        session.draw(template, {"n": whole(2)}, {})
        self.assertEqual([version for version, _ in session.versions], [1, 2])
        self.assertEqual(session.kept(1)[0], session.kept(2)[0])

    def test_the_newest_eight_are_kept(self):
        session = Session(1)
        template = page("text n", shared=("n = 1",))
        for number in range(1, 21):
            session.draw(template, {"n": whole(number)}, {})
            versions = [version for version, _ in session.versions]
            self.assertEqual(versions, list(range(max(1, number - 7), number + 1)))
            self.assertIsInstance(session.versions, list)
        self.assertIsNone(session.kept(12))
        self.assertEqual(session.kept(13)[0], tree(("text", 5, "13")))
        self.assertEqual(session.newest(), (20, (tree(("text", 5, "20")), ((5, 0, ()),))))

    def test_a_render_that_fails_or_waits(self):
        for lines, problem in ((["text sub(n, 5)"], ("error", "integer underflow")),
                               (["if lt(n, 5)", '  text resource("x")'], ("waits", "x"))):
            session = Session(1)
            template = page('text "a"', "use part()", *lines, ahead=("component part()", "  state s = 1"),
                            shared=("n = 9",))
            session.draw(template, {"n": whole(9)}, {})
            instances = session.instances
            before = [node for node in session.ids]
            session.draw(template, {"n": whole(1)}, {})
            self.assertEqual((session.problem, session.nodes, session.ids), (problem, (), ()))
            self.assertEqual(session.instances, instances)
            self.assertEqual(session.newest(), (2, (EMPTY, ())))
            self.assertEqual(session.kept(1)[1][0][0], 5)
            # All nodes are new behind it, the instances are not.
            session.draw(template, {"n": whole(8)}, {})
            self.assertIsNone(session.problem)
            self.assertEqual(session.instances, instances)
            self.assertEqual(min(session.ids), max(before) + 1)
            self.assertEqual(session.newest()[0], 3)

    def test_a_first_render_that_fails(self):
        session = Session(1)
        session.draw(page("text sub(1, 2)"), {}, {})
        self.assertEqual(session.versions, [(1, (EMPTY, ()))])
        self.assertEqual((session.instances, session.problem), ((), ("error", "integer underflow")))
        session.draw(page('text resource("x")'), {}, {})
        self.assertEqual([version for version, _ in session.versions], [1])
        self.assertEqual(session.problem, ("waits", "x"))

    def test_numbers_and_ids_are_not_given_twice(self):
        session = Session(1)
        ahead = ("component part(k)", "  text k")
        template = page('for k v in resource("x")', "  use part(k)", ahead=ahead)
        for keys, ids, numbers in [("a", (5,), [1, 2]), ("ab", (5, 6), [1, 2, 3]), ("b", (6,), [1, 3]),
                                   ("ba", (6, 7), [1, 3, 4]), ("", (), [1]), ("ab", (8, 9), [1, 5, 6])]:
            session.draw(template, {}, {"x": entries(**{key: NONE for key in keys})})
            self.assertEqual((session.ids, [instance[1] for instance in session.instances]), (ids, numbers))

    def test_kept_instances_come_back(self):
        session = Session(1)
        ahead = ("component part(k)", "  state s = n", "  text s")
        template = page("for k v in %s offset n limit 1" % 'map("a", 1, "b", 2, "c", 3)', "  use part(k)", ahead=ahead,
                        shared=("n = 1",))
        seen = []
        for number in (0, 1, 0, 2):
            session.draw(template, {"n": whole(number)}, {})
            seen.append((session.newest()[1][0][0][3], [instance[1] for instance in session.instances]))
        self.assertEqual(seen, [((("text", 5, "0"),), [1, 2]), ((("text", 6, "1"),), [1, 3, 2]),
                                ((("text", 7, "0"),), [1, 2, 3]), ((("text", 8, "2"),), [1, 4, 2, 3])])

    def test_nodes_around_which_something_changes(self):
        session = Session(1)
        template = page("if lt(n, 2)", "  element row", "    use part()", "else", "  element row", "    use part()",
                        ahead=("component part()", '  text "p"'), shared=("n = 1",))
        session.draw(template, {"n": whole(1)}, {})
        session.draw(template, {"n": whole(1)}, {})
        self.assertEqual(session.ids, (5, 6))
        session.draw(template, {"n": whole(2)}, {})
        self.assertEqual(session.ids, (7, 8))

    def test_only_nodes_of_the_newest_drawing_keep_their_ids(self):
        session = Session(1)
        template = page("if lt(n, 2)", '  text "a"', shared=("n = 1",))
        for number, ids in ((1, (5,)), (2, ()), (1, (6,))):
            session.draw(template, {"n": whole(number)}, {})
            self.assertEqual(session.ids, ids)

    def test_a_client_draws_its_own(self):
        for client in (1, 4):
            session = Session(client)
            session.draw(page("text me"), {}, {})
            self.assertEqual(session.newest()[1][0], tree(("text", 5, str(client))))

    def test_nothing_handed_in_is_changed(self):
        session = Session(1)
        shared = {"n": whole(1)}
        resources = {"x": words("y")}
        session.draw(page("text n", shared=("n = 1",)), shared, resources)
        self.assertEqual((shared, resources), ({"n": whole(1)}, {"x": words("y")}))


class Assign(unittest.TestCase):
    def test_states(self):
        session = Session(1)
        template = page('for k v in map("a", 1, "b", 2)', "  use part()", "text s", states=("s = 5",),
                        ahead=("component part()", "  state s = 1", "  state t = 2", "  text s", "  text t"))
        session.draw(template, {}, {})
        session.assign((step(0, "b"), step(1)), "t", TRUE)
        session.assign((), "s", whole(7))
        session.draw(template, {}, {})
        self.assertEqual([node[3] for node in session.nodes], ["1", "2", "1", "true", "7"])
        self.assertEqual([instance[1] for instance in session.instances], [1, 2, 3])

    def test_the_first_instance_of_a_path_is_meant(self):
        session = Session(1)
        states = (("s", NONE),)
        session.instances = (((), 1, "page", states), ((), 2, "older", states))
        session.assign((), "s", TRUE)
        self.assertEqual(session.instances, (((), 1, "page", (("s", TRUE),)), ((), 2, "older", states)))


class Decide(unittest.TestCase):
    """Each outcome ahead of the next one."""

    # Version 1 with n = 1: a row (5) with a text (6) in it, and a text (7) beside it.
    LINES = ("if lt(n, 9)", "  element row", "    on buy(x)", "      expect m", "    on sell(x)", '    text "a"',
             "else", '  element row', 'text "b"')

    def setUp(self):
        self.template = page(*self.LINES, shared=("n = 1", "m = 1"))
        self.session = Session(1)
        self.draw(1, 1)

    def draw(self, number, other):
        self.session.draw(self.template, {"n": whole(number), "m": whole(other)}, {})

    def test_none_if_the_handler_must_be_run(self):
        for node in (5, 6):
            for name in ("buy", "sell"):
                self.assertIsNone(self.session.decide(event(1, node, name)))

    def test_the_sequence_and_the_scalar_do_not_matter(self):
        self.assertIsNone(self.session.decide(event(1, 5, "buy", words("x"), 77)))

    def test_stale(self):
        for version in (0, 2, 999999999):
            self.assertEqual(self.session.decide(event(version, 5)), "stale")
            self.assertEqual(self.session.decide(event(version, 99, "bye")), "stale")
        for number in range(2, 9):
            self.draw(1, number)
        self.assertEqual(self.session.decide(event(1, 5, "sell")), None)
        self.draw(1, 9)
        self.assertEqual(self.session.decide(event(1, 5, "sell")), "stale")
        self.assertEqual(self.session.decide(event(2, 5, "sell")), None)

    def test_stale_without_versions(self):
        self.assertEqual(Session(1).decide(event(0, 5)), "stale")

    def test_unhandled(self):
        for node, name in ((5, "look"), (7, "buy"), (1, "buy"), (2, "buy"), (0, "buy"), (99, "buy")):
            self.assertEqual(self.session.decide(event(1, node, name)), "unhandled")

    def test_unhandled_ahead_of_removed(self):
        self.draw(9, 1)
        self.assertEqual(self.session.decide(event(1, 5, "look")), "unhandled")
        self.assertEqual(self.session.decide(event(1, 7, "buy")), "unhandled")

    def test_unhandled_in_the_version_that_was_seen(self):
        # The row of version 2 has another id, and no handlers.
        self.draw(9, 1)
        self.assertEqual(self.session.decide(event(2, 8, "buy")), "unhandled")

    def test_removed(self):
        self.draw(9, 1)
        for node in (5, 6):
            for name in ("buy", "sell"):
                self.assertEqual(self.session.decide(event(1, node, name)), "removed")

    def test_removed_ahead_of_conflict(self):
        self.draw(9, 2)
        self.assertEqual(self.session.decide(event(1, 5, "buy")), "removed")

    def test_removed_because_the_render_fails(self):
        self.session.draw(page("text sub(1, 2)"), {}, {})
        self.assertEqual(self.session.decide(event(1, 5, "sell")), "removed")
        self.draw(1, 1)
        self.assertEqual(self.session.decide(event(1, 5, "sell")), "removed")
        self.assertIsNone(self.session.decide(event(3, 8, "sell")))

    def test_removed_because_the_handler_is_gone(self):
        lines = ("if lt(n, 9)", "  element row", "    on sell(x)", "    on look(x)", "    if true", '      text "a"')
        self.session.draw(page(*lines, shared=("n = 1", "m = 1")), {"n": whole(1), "m": whole(1)}, {})
        self.assertEqual(self.session.newest()[1][1][0], (5, 0, (("sell", ()), ("look", ()))))
        self.assertEqual(self.session.decide(event(1, 5, "buy")), "removed")
        self.assertEqual(self.session.decide(event(1, 6, "buy")), "removed")
        self.assertIsNone(self.session.decide(event(1, 5, "sell")))

    def test_removed_though_one_around_handles_it(self):
        outer = ("element box", "  on buy(x)", "  element row")
        session = Session(1)
        session.draw(page(*outer, "    on buy(x)"), {}, {})
        session.draw(page(*outer), {}, {})
        self.assertEqual(session.ids, (5, 6))
        self.assertEqual(session.decide(event(1, 6)), "removed")
        self.assertIsNone(session.decide(event(2, 6)))

    def test_conflict(self):
        self.draw(1, 2)
        for node in (5, 6):
            self.assertEqual(self.session.decide(event(1, node, "buy")), "conflict")
            self.assertIsNone(self.session.decide(event(2, node, "buy")))
            self.assertIsNone(self.session.decide(event(1, node, "sell")))
        self.draw(1, 1)
        self.assertIsNone(self.session.decide(event(1, 5, "buy")))
        self.assertEqual(self.session.decide(event(2, 5, "buy")), "conflict")

    def test_conflict_between_a_value_and_nothing(self):
        expecting = page("element row", "  on buy(x)", "    expect none")
        not_expecting = page("element row", "  on buy(x)")
        session = Session(1)
        session.draw(expecting, {}, {})
        session.draw(not_expecting, {}, {})
        self.assertEqual(session.decide(event(1, 5)), "conflict")
        self.assertIsNone(session.decide(event(2, 5)))
        session.draw(expecting, {}, {})
        self.assertEqual(session.decide(event(2, 5)), "conflict")
        self.assertIsNone(session.decide(event(1, 5)))

    def test_conflict_of_maps(self):
        template = page("element row", "  on buy(x)", '    expect resource("x")')
        session = Session(1)
        for value in (entries(a=NONE, b=TRUE), entries(b=TRUE, a=NONE), entries(a=NONE, b=TRUE)):
            session.draw(template, {}, {"x": value})
        self.assertIsNone(session.decide(event(1, 5)))
        self.assertEqual(session.decide(event(2, 5)), "conflict")

    def test_the_handler_of_the_version_that_was_seen(self):
        # In version 1 the box handles it; now the row in it does, but that is not what the user saw.
        session = Session(1)
        session.draw(page("element box", "  on buy(x)", "    expect 1", "  element row"), {}, {})
        lines = ("element box", "  on buy(x)", "    expect 1", "  element row", "    on buy(x)", "      expect 2")
        session.draw(page(*lines), {}, {})
        self.assertEqual(session.ids, (5, 6))
        self.assertIsNone(session.decide(event(1, 6)))

    def test_nothing_is_changed(self):
        before = repr((self.session.versions, self.session.outcomes, self.session.instances, self.session.reported))
        for version in (0, 1):
            for node in (5, 7):
                self.session.decide(event(version, node))
        after = repr((self.session.versions, self.session.outcomes, self.session.instances, self.session.reported))
        self.assertEqual(before, after)


if __name__ == "__main__":
    unittest.main()
