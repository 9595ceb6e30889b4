"""c1 to c4: names, keys, scalars and values; v1: the plain text of a scalar."""

import unittest

from remoteviews.values import is_key, is_name, is_scalar, is_value, plain

SMALL = "abcdefghijklmnopqrstuvwxyz"
DIGITS = "0123456789"
# From ahead of the space to behind ASCII, and letters and digits of other alphabets.
CHARS = [chr(code) for code in range(300)] + ["\u0430", "\u0663", "\u2028", "\uff41", "\U0001d7d8", "\ud800"]
PERCENT = chr(37)

# None of these is a name, a key, a scalar or a value.
NOTHINGS = [
    None,
    True,
    False,
    0,
    1,
    -1,
    999999,
    "",
    (),
    (None,),
    (1,),
    (True,),
    ("",),
    ((),),
    ((), ()),
    (("none",),),
    (("none",), ("none",)),
    ("None",),
    ("none", None),
    ("none", ""),
    ("none", "none"),
    ("none", ()),
    (None, "none"),
    ("none", "none", "none"),
    ("bool",),
    ("bool", 0),
    ("bool", 1),
    ("bool", None),
    ("bool", "true"),
    ("bool", (True,)),
    ("bool", True, True),
    ("Bool", True),
    ("boolean", True),
    (True, "bool"),
    (True, True),
    ("int",),
    ("int", True),
    ("int", False),
    ("int", None),
    ("int", "1"),
    ("int", (1,)),
    ("int", -1),
    ("int", 1000000),
    ("int", 10 ** 30),
    ("int", 1, 1),
    ("integer", 1),
    (1, "int"),
    (1, 1),
    ("text",),
    ("text", None),
    ("text", 1),
    ("text", True),
    ("text", ("a",)),
    ("text", "a", "b"),
    ("string", "a"),
    ("", "a"),
    (("text",), "a"),
    ("text", "a" * 41),
    ("text", "a" * 1000),
    ("text", "a\n"),
    ("text", "\n"),
    ("text", PERCENT),
    ("text", "\t"),
    ("text", "\u00e9"),
    ("waits", "x"),
    ("literal", ("none",)),
]

# None of these is a value, and they are no scalars either.
NO_MAPS = [
    ("map",),
    ("map", None),
    ("map", 0),
    ("map", True),
    ("map", ""),
    ("map", "ab"),
    ("map", (), ()),
    ("Map", ()),
    ("maps", ()),
    (None, ()),
    ((), "map"),
    ("map", ("k", ("none",))),
    ("map", (("k",),)),
    ("map", (("k", ("none",), ("none",)),)),
    ("map", ((),)),
    ("map", (None,)),
    ("map", ("kv",)),
    ("map", (1,)),
    ("map", (("", ("none",)),)),
    ("map", (("k" * 13, ("none",)),)),
    ("map", (("k\n", ("none",)),)),
    ("map", ((PERCENT, ("none",)),)),
    ("map", ((1, ("none",)),)),
    ("map", ((None, ("none",)),)),
    ("map", ((("k",), ("none",)),)),
    ("map", ((("text", "k"), ("none",)),)),
    ("map", (("k", None),)),
    ("map", (("k", "v"),)),
    ("map", (("k", 1),)),
    ("map", (("k", ("int", 1000000)),)),
    ("map", (("k", ("int", True)),)),
    ("map", (("k", ("bool", 1)),)),
    ("map", (("k", ("text", "a" * 41)),)),
    ("map", (("k", ("map", ())),)),
    ("map", (("k", ("int", 1)), ("k", ("int", 2)))),
    ("map", (("k", ("int", 1)), ("k", ("int", 1)))),
    ("map", (("k", ("int", 1)), ("l", ("int", 1)), ("k", ("int", 1)))),
    ("map", (("k", ("int", 1)), ("l", ("int", -1)))),
    ("map", (("k", ("int", 1)), None)),
]


def map_of(many):
    return ("map", tuple((f"k{at}", ("int", at)) for at in range(many)))


def is_text_character(char):
    return 32 <= ord(char) <= 126 and char != PERCENT


class Names(unittest.TestCase):
    def test_lengths(self):
        for name in ["a", "z", "ab", "a1", "z9", "a" * 12, "a" + "0" * 11, "stock", "none", "true", "map"]:
            self.assertIs(is_name(name), True, name)
        for name in ["", "a" * 13, "a" + "0" * 12, "a" * 1000]:
            self.assertIs(is_name(name), False, name)

    def test_characters(self):
        for char in CHARS:
            self.assertIs(is_name(char), char in SMALL, repr(char))
            for text in ["a" + char, "a" + char + "b", "a" * 11 + char]:
                self.assertIs(is_name(text), char in SMALL + DIGITS, repr(text))
            self.assertIs(is_name(char + "a"), char in SMALL, repr(char))

    def test_other_things(self):
        for thing in NOTHINGS + NO_MAPS + [("a",), ("a", "b"), ("text", "a"), 10 ** 12]:
            self.assertIs(is_name(thing), False, repr(thing))


class Keys(unittest.TestCase):
    def test_lengths(self):
        for key in ["a", " ", "~", "0", "A key, too!", "k" * 12, " " * 12, "\\", '"', "_-."]:
            self.assertIs(is_key(key), True, key)
        for key in ["", "k" * 13, " " * 13, "k" * 1000]:
            self.assertIs(is_key(key), False, key)

    def test_characters(self):
        for char in CHARS:
            for key in [char, char + "k", "k" + char, "k" * 11 + char]:
                self.assertIs(is_key(key), is_text_character(char), repr(key))

    def test_other_things(self):
        for thing in NOTHINGS + NO_MAPS + [("a",), ("text", "a"), ("a", "b")]:
            self.assertIs(is_key(thing), False, repr(thing))


class Scalars(unittest.TestCase):
    def assert_both(self, thing, expected):
        self.assertIs(is_scalar(thing), expected, repr(thing))
        self.assertIs(is_value(thing), expected, repr(thing))

    def test_none_and_booleans(self):
        for thing in [("none",), ("bool", True), ("bool", False)]:
            self.assert_both(thing, True)

    def test_integers(self):
        for number in [0, 1, 7, 10, 999998, 999999]:
            self.assert_both(("int", number), True)
        for number in [-999999, -2, -1, 1000000, 1000001, 999999999]:
            self.assert_both(("int", number), False)

    def test_booleans_and_integers_are_not_mixed_up(self):
        for thing in [("int", True), ("int", False), ("bool", 0), ("bool", 1)]:
            self.assert_both(thing, False)

    def test_lengths_of_texts(self):
        for text in ["", "a", " ", "a" * 39, "a" * 40, "~" * 40]:
            self.assert_both(("text", text), True)
        for text in ["a" * 41, "a" * 42, " " * 41, "a" * 5000]:
            self.assert_both(("text", text), False)

    def test_characters_of_texts(self):
        for char in CHARS:
            for text in [char, char + "a", "a" + char, "a" + char + "a", "a" * 39 + char]:
                self.assert_both(("text", text), is_text_character(char))

    def test_other_things(self):
        for thing in NOTHINGS + ["a", "none", "true", "text", "12"]:
            self.assert_both(thing, False)

    def test_deep_tuples_are_none(self):
        deep = ("none",)
        for _ in range(50):
            deep = (deep,)
        self.assert_both(deep, False)
        self.assert_both(("text", deep), False)
        self.assert_both(("map", deep), False)

    def test_a_map_is_no_scalar(self):
        for thing in NO_MAPS + [map_of(many) for many in range(10)]:
            self.assertIs(is_scalar(thing), False, repr(thing))


class Values(unittest.TestCase):
    def test_numbers_of_entries(self):
        for many in range(9):
            self.assertIs(is_value(map_of(many)), True, many)
        for many in [9, 10, 50]:
            self.assertIs(is_value(map_of(many)), False, many)

    def test_entries(self):
        for scalar in [("none",), ("bool", False), ("int", 0), ("int", 999999), ("text", ""), ("text", "a" * 40)]:
            self.assertIs(is_value(("map", (("k", scalar),))), True, repr(scalar))
        for key in ["k", " ", "k" * 12, "K", "1", '"', "\\"]:
            self.assertIs(is_value(("map", ((key, ("none",)),))), True, key)

    def test_equal_scalars_at_different_keys(self):
        self.assertIs(is_value(("map", (("k", ("int", 1)), ("K", ("int", 1)), ("k ", ("int", 1))))), True)

    def test_a_key_twice_wherever_it_stands(self):
        entries = map_of(7)[1]
        for first in range(7):
            for place in range(first + 1, 8):
                twice = entries[:place] + ((f"k{first}", ("none",)),) + entries[place:]
                self.assertIs(is_value(("map", twice)), False, twice)

    def test_one_wrong_entry_wherever_it_stands(self):
        entries = map_of(7)[1]
        for place in range(8):
            for wrong in [("new", ("int", 1000000)), ("", ("none",)), ("new",), None]:
                mixed = entries[:place] + (wrong,) + entries[place:]
                self.assertIs(is_value(("map", mixed)), False, mixed)

    def test_other_things(self):
        for thing in NOTHINGS + NO_MAPS + ["a", "map", "ab"]:
            self.assertIs(is_value(thing), False, repr(thing))


class Plain(unittest.TestCase):
    def test_each_kind(self):
        for scalar, text in [
            (("none",), ""),
            (("bool", True), "true"),
            (("bool", False), "false"),
            (("int", 0), "0"),
            (("int", 7), "7"),
            (("int", 1000), "1000"),
            (("int", 999999), "999999"),
            (("text", ""), ""),
            (("text", "none"), "none"),
            (("text", "bool"), "bool"),
            (("text", "true"), "true"),
            (("text", "12"), "12"),
            (("text", ' a "b\\n" '), ' a "b\\n" '),
            (("text", "~" * 40), "~" * 40),
        ]:
            self.assertEqual(plain(scalar), text)
            self.assertIsInstance(plain(scalar), str)


if __name__ == "__main__":
    unittest.main()
