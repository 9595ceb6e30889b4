"""c8, c9, d1: patches are applied to trees, nodes are found in them."""

import unittest

from remoteviews.errors import BadPatch, ViewError
from remoteviews.trees import apply_patch, find, ids

NONE = ("none",)
ONE = ("int", 1)

# Layer 1 has an element 5 (with 6, 7 and 10 in it) and a text 12; in 7 are 8 and 9; layer 2 has a text 11.
TREE = (
    (
        "layer",
        1,
        "main",
        (
            (
                "element",
                5,
                "row",
                (("tone", ("text", "red")), ("wide", ("bool", True))),
                (
                    ("text", 6, "tea"),
                    ("element", 7, "cell", (), (("text", 8, "a"), ("element", 9, "cell", (), ()))),
                    ("text", 10, "end"),
                ),
            ),
            ("text", 12, "under"),
        ),
    ),
    ("layer", 2, "top", (("text", 11, "note"),)),
)
# The same tree as a patch from the empty one.
BUILT = (
    ("layer", 1, "main"),
    ("layer", 2, "top"),
    ("element", 5, 1, 0, "row"),
    ("text", 12, 1, 5, "under"),
    ("text", 11, 2, 0, "note"),
    ("attr", 5, "wide", ("bool", True)),
    ("attr", 5, "tone", ("text", "red")),
    ("text", 10, 5, 0, "end"),
    ("text", 6, 5, 0, "tea"),
    ("element", 7, 5, 6, "cell"),
    ("element", 9, 7, 0, "cell"),
    ("text", 8, 7, 0, "a"),
)


def inner(tree, number):
    """The ids of the children of a node."""
    node = find(tree, number)
    return [child[1] for child in node[-1]]


class Patches(unittest.TestCase):
    def assert_bad(self, *patch, tree=TREE):
        with self.assertRaises(BadPatch, msg=patch) as seen:
            apply_patch(tree, patch)
        self.assertIsInstance(seen.exception, ViewError)

    def test_the_empty_patch(self):
        self.assertEqual(apply_patch((), ()), ())
        self.assertEqual(apply_patch(TREE, ()), TREE)

    def test_a_tree_from_the_empty_one(self):
        self.assertEqual(apply_patch((), BUILT), TREE)

    def test_each_beginning_of_a_patch_applies(self):
        tree = ()
        for end, operation in enumerate(BUILT, start=1):
            tree = apply_patch(tree, (operation,))
            self.assertEqual(tree, apply_patch((), BUILT[:end]))
        self.assertEqual(tree, TREE)

    def test_of_several_operations_one_that_does_not_apply(self):
        right = [("content", 6, "x"), ("remove", 11), ("attr", 7, "tone", ONE), ("layer", 3, "low")]
        apply_patch(TREE, tuple(right))
        for place in range(len(right) + 1):
            self.assert_bad(*right[:place], ("content", 5, "x"), *right[place:])

    def test_the_operations_are_applied_in_order(self):
        self.assert_bad(("remove", 6), ("content", 6, "x"))
        self.assertEqual(inner(apply_patch(TREE, (("content", 6, "x"), ("remove", 6))), 5), [7, 10])
        self.assert_bad(("text", 14, 13, 0, "x"), ("element", 13, 1, 0, "row"))
        tree = apply_patch(TREE, (("element", 13, 1, 0, "row"), ("text", 14, 13, 0, "x")))
        self.assertEqual(find(tree, 13), ("element", 13, "row", (), (("text", 14, "x"),)))

    def test_the_tree_that_was_handed_in_stays(self):
        before = apply_patch((), BUILT)
        patch = (("remove", 7), ("move", 10, 0), ("attr", 5, "tone", NONE), ("content", 6, "x"))
        self.assertNotEqual(apply_patch(before, patch), TREE)
        self.assertEqual(before, TREE)
        self.assertEqual(patch, (("remove", 7), ("move", 10, 0), ("attr", 5, "tone", NONE), ("content", 6, "x")))

    def test_a_deep_tree(self):
        patch = [("layer", 1, "main"), ("element", 5, 1, 0, "a")]
        patch += [("element", number, number - 1, 0, "a") for number in range(6, 60)]
        tree = apply_patch((), tuple(patch))
        self.assertEqual(ids(tree), [1] + list(range(5, 60)))
        self.assertEqual(ids(apply_patch(tree, (("remove", 30),))), [1] + list(range(5, 30)))


class Layers(Patches):
    def test_one_more_behind_the_others(self):
        self.assertEqual(apply_patch((), (("layer", 1, "main"),)), (("layer", 1, "main", ()),))
        self.assertEqual(apply_patch(TREE, (("layer", 3, "low"),)), TREE + (("layer", 3, "low", ()),))

    def test_out_of_turn(self):
        for number in [0, 2, 3, 5]:
            self.assert_bad(("layer", number, "a"), tree=())
        for number in [0, 1, 2, 4, 5, 13]:
            self.assert_bad(("layer", number, "a"))
        self.assert_bad(("layer", 1, "a"), ("layer", 1, "b"), tree=())

    def test_a_fourth_one(self):
        three = tuple(("layer", number, f"l{number}") for number in (1, 2, 3))
        self.assertEqual(ids(apply_patch((), three)), [1, 2, 3])
        self.assert_bad(*three, ("layer", 4, "l4"), tree=())

    def test_a_name_that_there_is(self):
        self.assertEqual(apply_patch(TREE, (("layer", 3, "main"),))[2], ("layer", 3, "main", ()))


class Removing(Patches):
    def test_a_text(self):
        tree = apply_patch(TREE, (("remove", 6),))
        self.assertEqual(inner(tree, 5), [7, 10])
        self.assertEqual(ids(tree), [1, 5, 7, 8, 9, 10, 12, 2, 11])

    def test_an_element_with_all_that_is_in_it(self):
        self.assertEqual(ids(apply_patch(TREE, (("remove", 7),))), [1, 5, 6, 10, 12, 2, 11])
        self.assertEqual(ids(apply_patch(TREE, (("remove", 5),))), [1, 12, 2, 11])
        self.assertEqual(ids(apply_patch(TREE, (("remove", 9),))), [1, 5, 6, 7, 8, 10, 12, 2, 11])

    def test_what_went_is_there_no_more(self):
        for number in [7, 8, 9]:
            self.assert_bad(("remove", 7), ("remove", number))
        self.assert_bad(("remove", 5), ("attr", 7, "tone", ONE))
        self.assert_bad(("remove", 5), ("content", 8, "x"))
        self.assert_bad(("remove", 5), ("text", 13, 7, 0, "x"))
        self.assert_bad(("remove", 6), ("text", 13, 5, 6, "x"))

    def test_an_id_is_free_again(self):
        tree = apply_patch(TREE, (("remove", 7), ("text", 8, 5, 6, "x")))
        self.assertEqual(inner(tree, 5), [6, 8, 10])

    def test_no_node_and_layers(self):
        for number in [0, 1, 2, 3, 4, 13, 999999999]:
            self.assert_bad(("remove", number))
        self.assert_bad(("remove", 5), tree=())


class Creating(Patches):
    def test_at_each_place(self):
        for after, row in [(0, [13, 6, 7, 10]), (6, [6, 13, 7, 10]), (7, [6, 7, 13, 10]), (10, [6, 7, 10, 13])]:
            tree = apply_patch(TREE, (("element", 13, 5, after, "new"),))
            self.assertEqual(inner(tree, 5), row)
            self.assertEqual(find(tree, 13), ("element", 13, "new", (), ()))
            tree = apply_patch(TREE, (("text", 13, 5, after, "new"),))
            self.assertEqual(inner(tree, 5), row)
            self.assertEqual(find(tree, 13), ("text", 13, "new"))

    def test_in_layers_and_in_empty_elements(self):
        self.assertEqual(inner(apply_patch(TREE, (("text", 13, 1, 5, "x"),)), 1), [5, 13, 12])
        self.assertEqual(inner(apply_patch(TREE, (("text", 13, 2, 0, "x"),)), 2), [13, 11])
        self.assertEqual(inner(apply_patch(TREE, (("text", 13, 9, 0, ""),)), 9), [13])

    def test_nothing_else_changes(self):
        tree = apply_patch(TREE, (("text", 13, 9, 0, "x"),))
        self.assertEqual(apply_patch(tree, (("remove", 13),)), TREE)

    def assert_neither(self, number, parent, after, tree=TREE):
        self.assert_bad(("element", number, parent, after, "a"), tree=tree)
        self.assert_bad(("text", number, parent, after, "a"), tree=tree)

    def test_a_parent_that_is_none(self):
        for parent in [0, 3, 4, 13, 14]:
            self.assert_neither(20, parent, 0)
        for text in [6, 8, 11, 12]:
            self.assert_neither(20, text, 0)
        self.assert_neither(5, 1, 0, tree=())

    def test_ids_below_5(self):
        for number in [0, 1, 2, 3, 4]:
            self.assert_neither(number, 1, 0)
            self.assert_neither(number, 1, 0, tree=(("layer", 1, "main", ()),))
        apply_patch((("layer", 1, "main", ()),), (("text", 5, 1, 0, "a"),))

    def test_an_id_that_is_not_greater_than_its_parent(self):
        tree = (("layer", 1, "main", (("element", 9, "a", (), ()),)),)
        for number in [5, 8, 9]:
            self.assert_neither(number, 9, 0, tree=tree)
        self.assertEqual(inner(apply_patch(tree, (("text", 10, 9, 0, "a"),)), 9), [10])
        self.assertEqual(inner(apply_patch(tree, (("text", 8, 1, 9, "a"),)), 1), [9, 8])

    def test_an_id_that_there_is(self):
        for number in [5, 6, 7, 8, 9, 10, 11, 12]:
            self.assert_neither(number, 1, 0)
            self.assert_neither(number, 2, 0)

    def test_a_place_that_is_no_child_of_the_parent(self):
        for after in [1, 2, 5, 8, 9, 11, 12, 13, 20]:
            self.assert_neither(13, 5, after)
        for after in [1, 2, 6, 11]:
            self.assert_neither(13, 1, after)
        self.assert_neither(13, 9, 8)


class Moving(Patches):
    def test_at_each_place(self):
        for number, after, row in [
            (6, 0, [6, 7, 10]),
            (6, 7, [7, 6, 10]),
            (6, 10, [7, 10, 6]),
            (7, 0, [7, 6, 10]),
            (7, 6, [6, 7, 10]),
            (7, 10, [6, 10, 7]),
            (10, 0, [10, 6, 7]),
            (10, 6, [6, 10, 7]),
            (10, 7, [6, 7, 10]),
        ]:
            tree = apply_patch(TREE, (("move", number, after),))
            self.assertEqual(inner(tree, 5), row)
            self.assertEqual(find(tree, number), find(TREE, number))

    def test_in_a_layer(self):
        self.assertEqual(inner(apply_patch(TREE, (("move", 12, 0),)), 1), [12, 5])
        self.assertEqual(apply_patch(TREE, (("move", 12, 0), ("move", 12, 5))), TREE)

    def test_an_only_child(self):
        self.assertEqual(apply_patch(TREE, (("move", 11, 0),)), TREE)

    def test_behind_itself(self):
        for number in [5, 6, 7, 8, 11]:
            self.assert_bad(("move", number, number))

    def test_no_child_of_its_parent(self):
        for after in [1, 2, 5, 8, 9, 11, 12, 13]:
            self.assert_bad(("move", 6, after))
        self.assert_bad(("move", 5, 6))
        self.assert_bad(("move", 8, 7))

    def test_no_node_and_layers(self):
        for number in [0, 1, 2, 3, 4, 13]:
            for after in [0, 1, 2, 6]:
                self.assert_bad(("move", number, after))


class Attributes(Patches):
    def test_a_new_one_and_another_scalar(self):
        tree = apply_patch(TREE, (("attr", 5, "tone", ONE), ("attr", 9, "a", ("text", ""))))
        self.assertEqual(find(tree, 5)[3], (("tone", ONE), ("wide", ("bool", True))))
        self.assertEqual(find(tree, 9)[3], (("a", ("text", "")),))
        for scalar in [("bool", False), ("int", 0), ("text", "none"), ("text", "a" * 40)]:
            self.assertEqual(find(apply_patch(TREE, (("attr", 7, "a", scalar),)), 7)[3], (("a", scalar),))

    def test_in_the_order_of_the_names(self):
        names = ["z", "b", "a10", "a", "a2", "ab", "x1"]
        tree = apply_patch(TREE, tuple(("attr", 7, name, ONE) for name in names))
        self.assertEqual([name for name, _ in find(tree, 7)[3]], ["a", "a10", "a2", "ab", "b", "x1", "z"])

    def test_taken_away(self):
        tree = apply_patch(TREE, (("attr", 5, "tone", NONE),))
        self.assertEqual(find(tree, 5)[3], (("wide", ("bool", True)),))
        self.assertEqual(find(apply_patch(tree, (("attr", 5, "wide", NONE),)), 5)[3], ())

    def test_taken_away_if_there_is_none(self):
        self.assertEqual(apply_patch(TREE, (("attr", 5, "a", NONE), ("attr", 9, "tone", NONE))), TREE)

    def test_texts_layers_and_no_node(self):
        for number in [0, 1, 2, 3, 6, 8, 11, 13]:
            self.assert_bad(("attr", number, "tone", ONE))
            self.assert_bad(("attr", number, "tone", NONE))


class Contents(Patches):
    def test_of_texts(self):
        for content in ["", "tea", "x", "a" * 40]:
            tree = apply_patch(TREE, (("content", 6, content),))
            self.assertEqual(find(tree, 6), ("text", 6, content))
            self.assertEqual(apply_patch(tree, (("content", 6, "tea"),)), TREE)

    def test_elements_layers_and_no_node(self):
        for number in [0, 1, 2, 3, 5, 7, 9, 13]:
            self.assert_bad(("content", number, "x"))


class Finding(unittest.TestCase):
    def test_layers_elements_and_texts(self):
        self.assertEqual(find(TREE, 1), TREE[0])
        self.assertEqual(find(TREE, 2), TREE[1])
        self.assertEqual(find(TREE, 5), TREE[0][3][0])
        self.assertEqual(find(TREE, 7), ("element", 7, "cell", (), (("text", 8, "a"), ("element", 9, "cell", (), ()))))
        self.assertEqual(find(TREE, 8), ("text", 8, "a"))
        self.assertEqual(find(TREE, 11), ("text", 11, "note"))

    def test_each_id(self):
        for number in ids(TREE):
            self.assertEqual(find(TREE, number)[1], number)

    def test_no_node(self):
        for number in [0, 3, 4, 13, 999999999]:
            self.assertIsNone(find(TREE, number))
        self.assertIsNone(find((), 1))

    def test_ids(self):
        self.assertEqual(ids(TREE), [1, 5, 6, 7, 8, 9, 10, 12, 2, 11])
        self.assertEqual(ids(()), [])
        self.assertEqual(ids((("layer", 1, "a", ()), ("layer", 2, "b", ()))), [1, 2])

    def test_ids_of_a_tree_whose_ids_do_not_ascend(self):
        tree = apply_patch(TREE, (("move", 10, 0), ("move", 12, 0), ("text", 13, 7, 0, "x")))
        self.assertEqual(ids(tree), [1, 12, 5, 10, 6, 7, 13, 8, 9, 2, 11])

    def test_ids_are_new(self):
        first = ids(TREE)
        first.append(0)
        self.assertEqual(ids(TREE), first[:-1])


class Examples(unittest.TestCase):
    def test_apply_patch(self):
        patch = (
            ("layer", 1, "main"),
            ("element", 5, 1, 0, "row"),
            ("text", 6, 5, 0, "tea"),
            ("attr", 5, "tone", ("int", 1)),
        )
        row = ("element", 5, "row", (("tone", ("int", 1)),), (("text", 6, "tea"),))
        self.assertEqual(apply_patch((), patch), (("layer", 1, "main", (row,)),))


if __name__ == "__main__":
    unittest.main()
