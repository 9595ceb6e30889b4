"""d2 to d5: which trees go over into which, and the patch that leads there."""

import itertools
import random
import unittest

from remoteviews.diffs import diff, goes_over, staying
from remoteviews.trees import apply_patch, ids

NONE = ("none",)
ONE = ("int", 1)
TWO = ("int", 2)


def layer(number, name, *children):
    return ("layer", number, name, children)


def element(number, name, attributes, *children):
    return ("element", number, name, tuple(sorted(attributes.items())), children)


def text(number, content):
    return ("text", number, content)


def row(*numbers):
    """A tree of one layer with texts."""
    return (layer(1, "main", *[text(number, f"t{number}") for number in numbers]),)


def longest_rows(places):
    """All longest ascending rows of indices, by trying each row there is."""
    for size in range(len(places), -1, -1):
        found = []
        for indices in itertools.combinations(range(len(places)), size):
            if all(places[one] < places[other] for one, other in zip(indices, indices[1:])):
                found.append(list(indices))
        if found:
            return found


def fewest_moves(before, behind):
    """The fewest moves that turn one row into another, by trying all of them."""
    reached = {before}
    steps = 0
    while behind not in reached:
        steps += 1
        further = set()
        for one in reached:
            for child in one:
                rest = [other for other in one if other != child]
                for place in range(len(one)):
                    further.add(tuple(rest[:place] + [child] + rest[place:]))
        reached |= further
    return steps


def random_tree(numbers, fixed, rng):
    """A tree with some of the ids; kind, name and parent of each id are always the same."""
    layers = rng.randint(1, 3)
    rows = {number: [] for number in range(layers + 1)}
    kinds = {}
    for number in numbers:
        kind, _, parent = fixed[number]
        if parent in rows and kinds.get(parent, "element") == "element" and rng.random() < 0.7:
            rows[parent].insert(rng.randint(0, len(rows[parent])), number)
            rows[number] = []
            kinds[number] = kind

    def made(number):
        kind, name, _ = fixed[number]
        if kind == "text":
            return text(number, rng.choice(["x", "y"]))
        attributes = {name: rng.choice([ONE, TWO]) for name in "abc" if rng.random() < 0.5}
        return element(number, name, attributes, *[made(child) for child in rows[number]])

    names = ["main", "top", "low"]
    return tuple(layer(at + 1, names[at], *[made(child) for child in rows[at + 1]]) for at in range(layers))


def random_identities(numbers, rng):
    fixed = {1: ("layer", "", 0), 2: ("layer", "", 0), 3: ("layer", "", 0)}
    for number in numbers:
        parents = [other for other in fixed if other < number and fixed[other][0] != "text"]
        fixed[number] = (rng.choice(["element", "element", "text"]), rng.choice("pq"), rng.choice(parents))
    return fixed


class GoesOver(unittest.TestCase):
    TREE = (
        layer(1, "main", element(5, "row", {"a": ONE}, text(6, "x"), element(7, "cell", {})), text(8, "y")),
        layer(2, "top"),
    )

    def assert_over(self, one, other, truth):
        self.assertIs(goes_over(one, other), truth)

    def test_the_empty_tree(self):
        self.assert_over((), (), True)
        self.assert_over((), self.TREE, True)
        self.assert_over((), (layer(1, "other"),), True)
        self.assert_over(self.TREE, (), False)
        self.assert_over((layer(1, "main"),), (), False)

    def test_a_tree_into_itself(self):
        self.assert_over(self.TREE, self.TREE, True)

    def test_layers(self):
        main, top, low = layer(1, "main"), layer(2, "top"), layer(3, "low")
        self.assert_over((main,), (main, top), True)
        self.assert_over((main,), (main, top, low), True)
        self.assert_over((main, top), (main, top, low), True)
        self.assert_over((main, top), (main,), False)
        self.assert_over((main, top, low), (main, top), False)
        self.assert_over((main,), (layer(1, "top"),), False)
        self.assert_over((main, top), (main, layer(2, "low")), False)
        self.assert_over((main, top), (layer(1, "top"), layer(2, "main")), False)
        self.assert_over((main,), (layer(1, "top"), layer(2, "main")), False)

    def test_all_that_may_change(self):
        other = (
            layer(1, "main", text(8, "new"), element(5, "row", {"b": TWO}, element(7, "cell", {"a": ONE}, text(9, "")), text(6, "z"))),
            layer(2, "top", element(10, "row", {})),
            layer(3, "low"),
        )
        self.assert_over(self.TREE, other, True)

    def test_nodes_of_one_tree_alone(self):
        self.assert_over(self.TREE, (layer(1, "main"), layer(2, "top")), True)
        self.assert_over((layer(1, "main"), layer(2, "top")), self.TREE, True)
        self.assert_over(self.TREE, (layer(1, "main", text(8, "y")), layer(2, "top", text(9, "x"))), True)

    def test_another_kind(self):
        self.assert_over(row(5), (layer(1, "main", element(5, "t5", {})),), False)
        self.assert_over((layer(1, "main", element(5, "t5", {})),), row(5), False)

    def test_another_name(self):
        self.assert_over((layer(1, "main", element(5, "a", {})),), (layer(1, "main", element(5, "b", {})),), False)

    def test_another_content(self):
        self.assert_over((layer(1, "main", text(5, "a")),), (layer(1, "main", text(5, "b")),), True)

    def test_another_parent(self):
        one = (layer(1, "main", text(8, "x")), layer(2, "top", element(5, "a", {}), element(6, "a", {}, text(7, "y"))))
        self.assert_over(one, (layer(1, "main"), layer(2, "top", text(8, "x"))), False)
        self.assert_over(one, (layer(1, "main"), layer(2, "top", element(5, "a", {}, text(7, "y")))), False)
        self.assert_over(one, (layer(1, "main"), layer(2, "top", element(5, "a", {}, text(8, "x")))), False)
        self.assert_over(one, (layer(1, "main", text(7, "y")), layer(2, "top")), False)

    def test_within_what_differs(self):
        one = (layer(1, "main", element(5, "a", {}, element(6, "b", {}, text(7, "x")))),)
        self.assert_over(one, (layer(1, "main", element(5, "a", {}, element(6, "b", {}, element(7, "c", {})))),), False)
        self.assert_over(one, (layer(1, "main", element(5, "a", {}, element(6, "c", {}))),), False)
        self.assert_over(one, (layer(1, "main", element(5, "a", {}, element(8, "c", {}))),), True)


class Patches(unittest.TestCase):
    def assert_patch(self, one, other, *patch):
        self.assertTrue(goes_over(one, other))
        self.assertEqual(diff(one, other), patch)
        self.assertEqual(apply_patch(one, patch), other)

    def test_a_tree_to_itself(self):
        self.assert_patch((), ())
        self.assert_patch(GoesOver.TREE, GoesOver.TREE)
        self.assert_patch(row(7, 5, 6), row(7, 5, 6))

    def test_from_the_empty_tree(self):
        self.assert_patch(
            (),
            GoesOver.TREE,
            ("layer", 1, "main"),
            ("layer", 2, "top"),
            ("element", 5, 1, 0, "row"),
            ("text", 8, 1, 5, "y"),
            ("attr", 5, "a", ONE),
            ("text", 6, 5, 0, "x"),
            ("element", 7, 5, 6, "cell"),
        )

    def test_more_layers(self):
        one = (layer(1, "main", text(5, "x")),)
        other = (layer(1, "main", text(5, "x")), layer(2, "top", text(6, "y")), layer(3, "low"))
        self.assert_patch(one, other, ("layer", 2, "top"), ("layer", 3, "low"), ("text", 6, 2, 0, "y"))

    def test_nodes_that_are_gone(self):
        one = (layer(1, "main", text(9, "x"), element(5, "a", {}, text(6, "x"), text(8, "y")), element(7, "b", {}, text(10, "z"))),)
        self.assert_patch(one, (layer(1, "main"),), ("remove", 5), ("remove", 7), ("remove", 9))
        self.assert_patch(one, (layer(1, "main", element(7, "b", {})),), ("remove", 5), ("remove", 9), ("remove", 10))
        kept = element(5, "a", {}, text(8, "y"))
        self.assert_patch(one, (layer(1, "main", kept),), ("remove", 6), ("remove", 7), ("remove", 9))

    def test_new_nodes(self):
        self.assert_patch(row(6), row(5, 6, 7), ("text", 5, 1, 0, "t5"), ("text", 7, 1, 6, "t7"))
        self.assert_patch(row(5), row(9, 5, 8), ("text", 9, 1, 0, "t9"), ("text", 8, 1, 5, "t8"))
        self.assert_patch(row(), row(7, 5, 6), ("text", 7, 1, 0, "t7"), ("text", 5, 1, 7, "t5"), ("text", 6, 1, 5, "t6"))

    def test_a_new_element_with_all_that_is_in_it(self):
        one = (layer(1, "main", text(5, "x")),)
        new = element(6, "a", {"z": ONE, "b": TWO}, text(9, "y"), element(7, "c", {"a": ONE}, text(8, "")))
        self.assert_patch(
            one,
            (layer(1, "main", new, text(5, "x")),),
            ("element", 6, 1, 0, "a"),
            ("attr", 6, "b", TWO),
            ("attr", 6, "z", ONE),
            ("text", 9, 6, 0, "y"),
            ("element", 7, 6, 9, "c"),
            ("attr", 7, "a", ONE),
            ("text", 8, 7, 0, ""),
        )

    def test_attributes(self):
        one = (layer(1, "main", element(5, "a", {"a": ONE, "c": ONE, "e": ONE, "f": ONE})),)
        other = (layer(1, "main", element(5, "a", {"b": ONE, "c": ONE, "d": TWO, "e": TWO})),)
        self.assert_patch(
            one,
            other,
            ("attr", 5, "a", NONE),
            ("attr", 5, "f", NONE),
            ("attr", 5, "b", ONE),
            ("attr", 5, "d", TWO),
            ("attr", 5, "e", TWO),
        )

    def test_scalars_of_other_kinds(self):
        for before, behind in [(("int", 1), ("bool", True)), (("text", "1"), ("int", 1)), (("bool", False), ("text", ""))]:
            one = (layer(1, "main", element(5, "a", {"b": before})),)
            other = (layer(1, "main", element(5, "a", {"b": behind})),)
            self.assert_patch(one, other, ("attr", 5, "b", behind))

    def test_contents(self):
        one = (layer(1, "main", text(5, "a"), text(6, "b"), text(7, "c")),)
        other = (layer(1, "main", text(5, "x"), text(6, "b"), text(7, "")),)
        self.assert_patch(one, other, ("content", 5, "x"), ("content", 7, ""))

    def test_moves(self):
        self.assert_patch(row(5, 6, 7), row(6, 7, 5), ("move", 5, 7))
        self.assert_patch(row(5, 6, 7), row(7, 5, 6), ("move", 7, 0))
        self.assert_patch(row(5, 6), row(6, 5), ("move", 5, 6))
        self.assert_patch(row(5, 6, 7), row(7, 6, 5), ("move", 6, 7), ("move", 5, 6))
        self.assert_patch(row(5, 6, 7, 8), row(6, 5, 8, 7), ("move", 5, 6), ("move", 7, 8))

    def test_moves_beside_others(self):
        self.assert_patch(
            row(5, 6, 7, 8, 9),
            row(9, 10, 5, 8, 11, 7),
            ("remove", 6),
            ("move", 9, 0),
            ("text", 10, 1, 9, "t10"),
            ("text", 11, 1, 8, "t11"),
            ("move", 7, 11),
        )

    def test_what_is_gone_does_not_count_for_the_places(self):
        self.assert_patch(row(7, 5, 6), row(5, 6), ("remove", 7))
        self.assert_patch(row(5, 6, 7), row(5, 8, 7), ("remove", 6), ("text", 8, 1, 5, "t8"))

    def test_the_order_of_a_patch(self):
        one = (
            layer(
                1,
                "main",
                element(5, "a", {"p": ONE, "q": ONE}, text(7, "x"), text(8, "y"), text(9, "z")),
                text(6, "s"),
                element(10, "b", {}, text(11, "t"), text(12, "u")),
            ),
        )
        other = (
            layer(
                1,
                "main",
                element(10, "b", {"r": TWO}, text(12, "v")),
                element(5, "a", {"q": TWO}, text(9, "w"), text(7, "x"), element(14, "c", {"s": ONE}, text(15, "k"))),
                text(13, "n"),
            ),
            layer(2, "top"),
        )
        self.assert_patch(
            one,
            other,
            ("remove", 6),
            ("remove", 8),
            ("remove", 11),
            ("layer", 2, "top"),
            ("move", 5, 10),
            ("text", 13, 1, 5, "n"),
            ("attr", 5, "p", NONE),
            ("attr", 5, "q", TWO),
            ("move", 7, 9),
            ("element", 14, 5, 7, "c"),
            ("content", 9, "w"),
            ("attr", 10, "r", TWO),
            ("content", 12, "v"),
            ("attr", 14, "s", ONE),
            ("text", 15, 14, 0, "k"),
        )

    def test_arguments_stay(self):
        one, other = row(5, 6, 7), row(7, 8, 5)
        diff(one, other)
        self.assertEqual((one, other), (row(5, 6, 7), row(7, 8, 5)))


class Staying(unittest.TestCase):
    def test_empty_and_single(self):
        self.assertEqual(staying(()), [])
        for place in [0, 1, 7, 999999]:
            self.assertEqual(staying((place,)), [0])

    def test_ascending_and_descending(self):
        self.assertEqual(staying((0, 1, 2, 3)), [0, 1, 2, 3])
        self.assertEqual(staying((2, 5, 11, 70)), [0, 1, 2, 3])
        self.assertEqual(staying((3, 2, 1, 0)), [0])
        self.assertEqual(staying(tuple(range(60))), list(range(60)))
        self.assertEqual(staying(tuple(range(60))[::-1]), [0])

    def test_several_longest_ones(self):
        self.assertEqual(staying((1, 0, 3, 2)), [0, 2])
        self.assertEqual(staying((2, 0, 1)), [1, 2])
        self.assertEqual(staying((1, 2, 0)), [0, 1])
        self.assertEqual(staying((2, 3, 0, 1)), [0, 1])
        self.assertEqual(staying((0, 3, 1, 2)), [0, 2, 3])
        self.assertEqual(staying((0, 3, 2, 1)), [0, 1])
        self.assertEqual(staying((0, 5, 1, 4, 2)), [0, 2, 3])

    def test_all_short_rows(self):
        for size in range(7):
            for places in itertools.permutations(range(size)):
                self.assertEqual(staying(places), longest_rows(places)[0])

    def test_only_the_order_of_the_places_counts(self):
        for places in itertools.permutations([3, 10, 11, 40, 999]):
            self.assertEqual(staying(places), longest_rows(places)[0])

    def test_rows_of_60(self):
        rng = random.Random(1)
        for _ in range(40):
            places = rng.sample(range(100), 60)
            indices = staying(tuple(places))
            stay = [places[at] for at in indices]
            self.assertEqual(indices, sorted(set(indices)))
            self.assertEqual(stay, sorted(stay))
            self.assertEqual(len(stay), self.longest(places))

    def test_the_first_of_the_longest_of_60(self):
        # Of each pair one stays; the first of the pair comes first.
        places = tuple(place for at in range(0, 60, 2) for place in (at + 1, at))
        self.assertEqual(staying(places), list(range(0, 60, 2)))

    def longest(self, places):
        """How long the longest ascending row is, told by the smallest ends of rows of each length."""
        ends = []
        for place in places:
            at = len([end for end in ends if end < place])
            ends[at:at + 1] = [place]
        return len(ends)

    def test_results_are_new(self):
        first = staying((0, 1))
        first.append(7)
        self.assertEqual(staying((0, 1)), [0, 1])

    def test_examples(self):
        self.assertEqual((staying((3, 0, 1, 2)), staying((1, 0, 3, 2))), ([1, 2, 3], [0, 2]))


class LeadsThere(unittest.TestCase):
    """d5: the patch applies and gives the other tree; none has fewer moves."""

    def test_all_short_rows_with_as_few_moves_as_can_be(self):
        for size in range(1, 6):
            before = tuple(range(5, 5 + size))
            for behind in itertools.permutations(before):
                patch = diff(row(*before), row(*behind))
                self.assertEqual(apply_patch(row(*before), patch), row(*behind))
                self.assertEqual({operation[0] for operation in patch} - {"move"}, set())
                self.assertEqual(len(patch), fewest_moves(before, behind))

    def test_the_ones_that_move_are_those_that_do_not_stay(self):
        for behind in itertools.permutations(range(5, 10)):
            patch = diff(row(*range(5, 10)), row(*behind))
            stay = [behind[at] for at in staying(tuple(number - 5 for number in behind))]
            self.assertEqual([operation[1] for operation in patch], [number for number in behind if number not in stay])

    def test_random_trees(self):
        rng = random.Random(2)
        numbers = list(range(5, 30))
        for _ in range(300):
            fixed = random_identities(numbers, rng)
            one, other = random_tree(numbers, fixed, rng), random_tree(numbers, fixed, rng)
            self.assertEqual(goes_over(one, other), len(one) <= len(other))
            if goes_over(one, other):
                patch = diff(one, other)
                self.assertEqual(apply_patch(one, patch), other)
                self.assertEqual(apply_patch((), diff((), other)), other)
                gone = [number for number in ids(one) if number not in ids(other)]
                self.assertLessEqual({operation[1] for operation in patch if operation[0] == "remove"}, set(gone))


if __name__ == "__main__":
    unittest.main()
