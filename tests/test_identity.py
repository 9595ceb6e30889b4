"""i1 to i3, c8: numbers of instances, ids of nodes, drawings."""

import unittest

from pages import NONE, drawn, page, step, whole, words
from remoteviews.identity import drawing, keys, numbered, with_ids

ROOT = ((), 1, "page", ())


def element(path, word, around=-1, layer=1, owner=(), attributes=(), handlers=()):
    return ("element", path, owner, word, attributes, handlers, around, layer, path[-1][0], (), ())


def text(path, word, around=-1, layer=1, owner=()):
    return ("text", path, owner, word, (), (), around, layer, path[-1][0], (), ())


class Numbered(unittest.TestCase):
    def test_nothing(self):
        self.assertEqual(numbered((), (), 1), ((), 1))

    def test_new_ones_get_the_next_numbers(self):
        visited = (((), 0, "page", ()), ((step(0),), 0, "part", (("s", NONE),)))
        self.assertEqual(numbered(visited, (), 1), (
            (((), 1, "page", ()), ((step(0),), 2, "part", (("s", NONE),))), 3))
        self.assertEqual(numbered(visited, (), 8)[1], 10)
        self.assertEqual([instance[1] for instance in numbered(visited, (), 8)[0]], [8, 9])

    def test_old_ones_keep_theirs(self):
        visited = (((), 4, "page", ()), ((step(0),), 0, "part", ()), ((step(1),), 2, "part", ()),
                   ((step(2),), 0, "part", ()))
        instances, following = numbered(visited, (), 7)
        self.assertEqual(([instance[1] for instance in instances], following), ([4, 7, 2, 8], 9))
        self.assertEqual([instance[0] for instance in instances], [instance[0] for instance in visited])

    def test_kept_ones_stand_behind_the_visited_ones(self):
        visited = (ROOT, ((step(3),), 0, "part", ()))
        kept = (((step(2),), 5, "part", ()), ((step(1),), 3, "part", ()))
        self.assertEqual(numbered(visited, kept, 6), ((ROOT, ((step(3),), 6, "part", ())) + kept, 7))

    def test_none_is_given_twice(self):
        # The greatest number is gone, and is not given again.
        self.assertEqual(numbered((ROOT, ((step(0),), 0, "part", ())), (), 9)[0][1][1], 9)


class Ids(unittest.TestCase):
    OWNED = (ROOT, ((step(1),), 2, "part", ()))

    def setUp(self):
        self.nodes = (element((step(0),), "row"), text((step(2),), "a", 0, 0),
                      text((step(1), step(0)), "b", 0, 2, (step(1),)))
        self.ids, self.following = with_ids(self.nodes, self.OWNED, (), 5)
        self.newest = keys(self.nodes, self.ids, self.OWNED)

    def behind(self, nodes, instances=None, following=20):
        return with_ids(nodes, instances or self.OWNED, self.newest, following)

    def test_new_ones_from_the_next_one_on(self):
        self.assertEqual((self.ids, self.following), ((5, 6, 7), 8))
        self.assertEqual(with_ids(self.nodes, self.OWNED, (), 30), ((30, 31, 32), 33))
        self.assertEqual(with_ids((), self.OWNED, self.newest, 30), ((), 30))

    def test_keys(self):
        self.assertEqual(self.newest, (
            (5, (step(0),), 1, "element", "row", 1, 0),
            (6, (step(2),), 1, "text", "", 5, 5),
            (7, (step(1), step(0)), 2, "text", "", 2, 5)))

    def test_keys_of_nothing(self):
        self.assertEqual(keys((), (), ()), ())

    def test_same_nodes(self):
        self.assertEqual(self.behind(self.nodes), ((5, 6, 7), 20))

    def test_in_another_order(self):
        nodes = (self.nodes[0], self.nodes[2], self.nodes[1])
        self.assertEqual(self.behind(nodes), ((5, 7, 6), 20))

    def test_some_of_them(self):
        self.assertEqual(self.behind(self.nodes[:1]), ((5,), 20))
        self.assertEqual(self.behind((self.nodes[0], text((step(9),), "n", 0, 0), self.nodes[2])), ((5, 20, 7), 21))

    def test_what_does_not_matter(self):
        row = ("element", (step(0),), (), "row", (("tone", NONE),), (("buy", 3, ()),), -1, 1, 9, (("n", NONE),),
               (("p", NONE),))
        self.assertEqual(self.behind((row, text((step(2),), "other", 0, 0))), ((5, 6), 20))

    def test_another_path(self):
        self.assertEqual(self.behind((element((step(4),), "row"),)), ((20,), 21))
        self.assertEqual(self.behind((element((step(0, "k"), step(0)), "row"),)), ((20,), 21))

    def test_another_owner(self):
        instances = (ROOT, ((step(1),), 3, "part", ()))
        self.assertEqual(self.behind(self.nodes, instances), ((5, 6, 20), 21))
        instances = (((), 9, "page", ()), self.OWNED[1])
        self.assertEqual(self.behind(self.nodes, instances)[0][0], 20)

    def test_another_kind(self):
        self.assertEqual(self.behind((text((step(0),), "row"),)), ((20,), 21))
        self.assertEqual(self.behind((self.nodes[0], element((step(2),), "a", 0, 0))), ((5, 20), 21))
        self.assertEqual(self.behind((self.nodes[0], element((step(2),), "", 0, 0))), ((5, 20), 21))

    def test_another_name(self):
        self.assertEqual(self.behind((element((step(0),), "cell"),)), ((20,), 21))

    def test_another_layer(self):
        self.assertEqual(self.behind((element((step(0),), "row", -1, 2),)), ((20,), 21))
        nodes = (self.nodes[0], text((step(1), step(0)), "b", 0, 1, (step(1),)))
        self.assertEqual(self.behind(nodes), ((5, 20), 21))

    def test_a_layer_in_place_of_an_element(self):
        nodes = (self.nodes[0], text((step(2),), "a", 0, 1))
        self.assertEqual(self.behind(nodes), ((5, 20), 21))

    def test_another_element_around(self):
        # Its parent is the same layer, but the element around it has another id, or there is none.
        nodes = (element((step(0),), "cell"), text((step(1), step(0)), "b", 0, 2, (step(1),)))
        self.assertEqual(self.behind(nodes), ((20, 21), 22))
        self.assertEqual(self.behind((text((step(1), step(0)), "b", -1, 2, (step(1),)),)), ((20,), 21))

    def test_a_new_parent(self):
        nodes = (element((step(0),), "cell"), text((step(2),), "a", 0, 0))
        self.assertEqual(self.behind(nodes), ((20, 21), 22))

    def test_only_the_newest_drawing_counts(self):
        ids, following = self.behind((element((step(0),), "cell"),))
        newest = keys((element((step(0),), "cell"),), ids, self.OWNED)
        self.assertEqual(with_ids(self.nodes[:1], self.OWNED, newest, following), ((21,), 22))

    def test_the_first_instance_of_a_path_is_meant(self):
        instances = self.OWNED + (((step(1),), 9, "older", ()), ((), 8, "older", ()))
        self.assertEqual(self.behind(self.nodes, instances), ((5, 6, 7), 20))
        self.assertEqual([row[2] for row in keys(self.nodes, self.ids, instances)], [1, 1, 2])

    def test_of_a_render(self):
        template = page("element row", "  text me", "  portal top", '    text "a"')
        nodes = drawn(template)[1]
        ids, following = with_ids(nodes, (ROOT,), (), 5)
        self.assertEqual((ids, following), ((5, 6, 7), 8))
        self.assertEqual(keys(nodes, ids, (ROOT,)), (
            (5, (step(0),), 1, "element", "row", 1, 0), (6, (step(1),), 1, "text", "", 5, 5),
            (7, (step(3),), 1, "text", "", 2, 5)))


class Drawings(unittest.TestCase):
    def test_no_nodes(self):
        self.assertEqual(drawing(("main",), (), ()), ((("layer", 1, "main", ()),), ()))
        self.assertEqual(drawing(("b", "a", "c"), (), ()),
                         ((("layer", 1, "b", ()), ("layer", 2, "a", ()), ("layer", 3, "c", ())), ()))

    def test_of_a_render(self):
        template = page('text "t"', "element row", "  attr tone = 1", "  on buy(x)", "    expect 2", "  on sell(x)",
                        "  element cell", '    text "a"', "  portal top", '    text "b"', "    element box",
                        '      text "c"', '  text "d"', "portal top", '  text "e"', layers="main, top, low")
        nodes = drawn(template)[1]
        # Ids need not be those of the order of drawing.
        ids = (9, 5, 7, 8, 20, 21, 22, 10, 30)
        self.assertEqual(drawing(("main", "top", "low"), nodes, ids), ((
            ("layer", 1, "main", (
                ("text", 9, "t"),
                ("element", 5, "row", (("tone", whole(1)),), (
                    ("element", 7, "cell", (), (("text", 8, "a"),)),
                    ("text", 10, "d"))))),
            ("layer", 2, "top", (
                ("text", 20, "b"),
                ("element", 21, "box", (), (("text", 22, "c"),)),
                ("text", 30, "e"))),
            ("layer", 3, "low", ())), (
            (9, 0, ()),
            (5, 0, (("buy", (whole(2),)), ("sell", ()))),
            (7, 5, ()),
            (8, 7, ()),
            (20, 5, ()),
            (21, 5, ()),
            (22, 21, ()),
            (10, 5, ()),
            (30, 0, ()))))

    def test_children_in_the_order_of_drawing(self):
        nodes = drawn(page('for k v in map("b", 1, "a", 2)', "  text k", "  portal top", "    text v", 'text "z"'))[1]
        tree, rows = drawing(("main", "top"), nodes, (8, 7, 6, 5, 9))
        self.assertEqual(tree, (("layer", 1, "main", (("text", 8, "b"), ("text", 6, "a"), ("text", 9, "z"))),
                                ("layer", 2, "top", (("text", 7, "1"), ("text", 5, "2")))))
        self.assertEqual([row[0] for row in rows], [8, 7, 6, 5, 9])

    def test_attributes_and_expected_values(self):
        nodes = (element((step(0),), "row", -1, 1, (), (("a", NONE), ("b", words("x"))),
                         (("buy", 1, ()), ("sell", 3, (("map", ()),)))),)
        self.assertEqual(drawing(("main",), nodes, (5,)), (
            (("layer", 1, "main", (("element", 5, "row", (("a", NONE), ("b", words("x"))), ()),)),),
            ((5, 0, (("buy", ()), ("sell", (("map", ()),)))),)))


if __name__ == "__main__":
    unittest.main()
