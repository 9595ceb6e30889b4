"""s1, s2: lines are read as signs; s3: signs are written; s4: literals."""

import itertools
import unittest

from remoteviews.errors import BadSigns, ViewError
from remoteviews.signs import literal, split_line, write_signs

PERCENT = chr(37)
LETTERS_AND_DIGITS = "abcdefghijklmnopqrstuvwxyzABCDEFGHIJKLMNOPQRSTUVWXYZ0123456789"
# From ahead of the space to behind ASCII, and letters and digits of other alphabets.
CHARS = [chr(code) for code in range(300)] + ["\u0430", "\u0663", "\u2028", "\uff41", "\U0001d7d8", "\ud800"]


def name(text):
    return ("name", text)


def number(value):
    return ("number", value)


def quoted(text):
    return ("quoted", text)


def mark(text):
    return ("mark", text)


def is_text_character(char):
    return 32 <= ord(char) <= 126 and char != PERCENT


class Reading(unittest.TestCase):
    def assert_signs(self, line, signs):
        self.assertEqual(split_line(line), signs, repr(line))

    def assert_refused(self, line, offset):
        with self.assertRaises(BadSigns, msg=repr(line)) as seen:
            split_line(line)
        self.assertEqual(seen.exception.offset, offset, repr(line))
        self.assertIsInstance(seen.exception, ViewError)


class Kinds(Reading):
    def test_no_signs(self):
        for line in ["", " ", "      "]:
            self.assert_signs(line, [])

    def test_names(self):
        for text in ["a", "z", "ab", "a1", "z09", "stock", "none", "a" * 12, "a" + "9" * 11]:
            self.assert_signs(text, [name(text)])

    def test_runs_that_are_no_names(self):
        for text in ["a" * 13, "a" + "1" * 12, "A", "Ab", "aB", "Z1", "a1B", "abcdefghijkL", "a" * 500]:
            self.assert_refused(text, 0)
            self.assert_refused("  " + text + " b", 2)

    def test_numbers(self):
        for value in [0, 1, 9, 10, 100, 999999, 1000000, 99999999, 100000000, 999999999]:
            self.assert_signs(str(value), [number(value)])
        self.assertIs(type(split_line("1")[0][1]), int)

    def test_runs_that_are_no_numbers(self):
        for text in ["1000000000", "9999999999", "00", "01", "007", "000000000", "0123456789", "12b", "0a", "1A", "9" * 500]:
            self.assert_refused(text, 0)
            self.assert_refused("a = " + text, 4)

    def test_signs_of_numbers_are_refused(self):
        self.assert_refused("-1", 0)
        self.assert_refused("1.5", 1)

    def test_marks(self):
        for text in "(),=":
            self.assert_signs(text, [mark(text)])
        self.assert_signs("((,==))", [mark(text) for text in "((,==))"])

    def test_quoted_texts(self):
        for text in ["", "a", " ", "  a  b ", "(),=", "A1", "none", "'", "~", "n", "a" * 40, "a" * 41, "a b" * 2000]:
            self.assert_signs('"' + text + '"', [quoted(text)])

    def test_all_characters_alone(self):
        for char in CHARS:
            if char == " ":
                self.assert_signs(char, [])
            elif char in "(),=":
                self.assert_signs(char, [mark(char)])
            elif char in LETTERS_AND_DIGITS[:26]:
                self.assert_signs(char, [name(char)])
            elif char in LETTERS_AND_DIGITS[52:]:
                self.assert_signs(char, [number(int(char))])
            else:
                self.assert_refused(char, 0)

    def test_all_characters_behind_a_name(self):
        for char in CHARS:
            if char not in LETTERS_AND_DIGITS + ' (),="':
                self.assert_refused("ab" + char + "c", 2)
                self.assert_refused("ab  " + char, 4)

    def test_all_characters_in_a_run(self):
        for char in LETTERS_AND_DIGITS:
            if char in LETTERS_AND_DIGITS[26:52]:
                self.assert_refused("a" + char, 0)
                self.assert_refused("1" + char, 0)
            else:
                self.assert_signs("a" + char, [name("a" + char)])


class Escapes(Reading):
    def test_each_escape(self):
        self.assert_signs(r'"\""', [quoted('"')])
        self.assert_signs(r'"\\"', [quoted("\\")])
        self.assert_signs(r'"\n"', [quoted("\n")])

    def test_escapes_among_other_characters(self):
        self.assert_signs(r'"a\"b\\c\nd"', [quoted('a"b\\c\nd')])
        self.assert_signs(r'"\n\n"', [quoted("\n\n")])
        self.assert_signs(r'"\\n"', [quoted("\\n")])
        self.assert_signs(r'"\\\n"', [quoted("\\\n")])
        self.assert_signs(r'"\\\""', [quoted('\\"')])
        self.assert_signs(r'"\\\\"', [quoted("\\\\")])

    def test_escapes_at_the_end(self):
        self.assert_signs(r'"a\\"b', [quoted("a\\"), name("b")])
        self.assert_signs(r'"a\"" "b"', [quoted('a"'), quoted("b")])

    def test_wrong_escapes(self):
        for char in CHARS:
            if char not in '"\\n':
                self.assert_refused('"\\' + char + '"', 0)
                self.assert_refused('a "bc\\' + char + 'd" e', 2)
        self.assert_refused(r'"\\\t"', 0)

    def test_no_escapes_outside(self):
        self.assert_refused("\\", 0)
        self.assert_refused("a \\n", 2)
        self.assert_refused(r"\"a\"", 0)

    def test_without_an_end(self):
        for line in ['"', '"a', '"a b ', r'"\"', r'"a\"', r'"\\\"', '"\\', '"a\\', r'"\n']:
            self.assert_refused(line, 0)
            self.assert_refused("  " + line, 2)
            self.assert_refused('x="b"' + line, 5)

    def test_three_quotation_marks(self):
        self.assert_refused('"""', 2)
        self.assert_signs('""""', [quoted(""), quoted("")])

    def test_characters_of_quoted_texts(self):
        for char in CHARS:
            if char not in '"\\':
                for text in [char, "a" + char, char + "a", "abc" + char + "def"]:
                    line = '"' + text + '"'
                    if is_text_character(char):
                        self.assert_signs("a " + line, [name("a"), quoted(text)])
                    else:
                        self.assert_refused("a " + line, 2)

    def test_a_wrong_quoted_text_is_refused_at_its_own_beginning(self):
        self.assert_refused('"a" "b" "c' + PERCENT + '"', 8)
        self.assert_refused(r'"a" "\"" "\a"', 9)


class Spaces(Reading):
    SIGNS = [name("set"), name("n"), mark("="), name("add"), mark("("), name("n"), mark(","), number(12), mark(")")]

    def test_few_and_many(self):
        for line in [
            "set n=add(n,12)",
            "set n = add( n,12)",
            "set n = add(n, 12)",
            " set n = add ( n , 12 ) ",
            "     set    n    =    add   (   n   ,   12   )    ",
        ]:
            self.assert_signs(line, self.SIGNS)

    def test_each_pair_of_signs(self):
        signs = [name("a"), number(1), quoted("q"), quoted(" "), mark("("), mark(")"), mark(","), mark("=")]
        texts = ["a", "1", '"q"', '" "', "(", ")", ",", "="]
        for first, second in itertools.product(range(len(signs)), repeat=2):
            for between in [" ", "  ", "     "]:
                for around in ["", " ", "    "]:
                    line = around + texts[first] + between + texts[second] + around
                    self.assert_signs(line, [signs[first], signs[second]])
            if first > 1 or second > 1:
                self.assert_signs(texts[first] + texts[second], [signs[first], signs[second]])

    def test_where_a_space_is_needed(self):
        self.assert_signs("a b", [name("a"), name("b")])
        self.assert_signs("ab", [name("ab")])
        self.assert_signs("1 2", [number(1), number(2)])
        self.assert_signs("12", [number(12)])
        self.assert_signs("0 1", [number(0), number(1)])
        self.assert_refused("01", 0)
        self.assert_signs("12 b", [number(12), name("b")])
        self.assert_refused("12b", 0)
        self.assert_signs("a" * 12 + " b", [name("a" * 12), name("b")])
        self.assert_refused("a" * 12 + "b", 0)

    def test_other_blanks_are_no_spaces(self):
        for blank in "\t\n\r\f\v\u00a0":
            self.assert_refused("a" + blank + "b", 1)
            self.assert_refused(blank + "a", 0)
            self.assert_refused("a" + blank, 1)


class Refusals(Reading):
    def test_the_first_one_from_the_left_counts(self):
        self.assert_refused("a 12b !", 2)
        self.assert_refused("a ! 12b", 2)
        self.assert_refused("Ab 12b", 0)
        self.assert_refused('? "', 0)
        self.assert_refused('" ?', 0)
        self.assert_refused('"a" ? "', 4)
        self.assert_refused('"a' + PERCENT + '" ?', 0)
        self.assert_refused("(a, b, 01, $", 7)
        self.assert_refused('a = 1 "\\x" B', 6)
        self.assert_refused('a = 1 B "\\x"', 6)

    def test_a_character_behind_a_wrong_run(self):
        self.assert_refused("a Bc!", 2)
        self.assert_refused("a 12\u00e9", 4)
        self.assert_refused("a b\u00e9", 3)
        self.assert_refused("a 1_000", 3)

    def test_the_offset_counts_the_spaces_ahead(self):
        for many in range(6):
            self.assert_refused(" " * many + "?", many)
            self.assert_refused(" " * many + "A", many)
            self.assert_refused(" " * many + '"', many)


class Writing(unittest.TestCase):
    def test_no_signs_and_one(self):
        self.assertEqual(write_signs([]), "")
        for sign, text in [
            (name("a"), "a"),
            (number(0), "0"),
            (number(999999999), "999999999"),
            (quoted(""), '""'),
            (quoted("a b"), '"a b"'),
            (mark("("), "("),
            (mark(")"), ")"),
            (mark(","), ","),
            (mark("="), "="),
        ]:
            self.assertEqual(write_signs([sign]), text)

    def test_one_space_between_two(self):
        self.assertEqual(write_signs([name("a"), name("b"), number(1), quoted("c"), mark("="), number(2)]), 'a b 1 "c" = 2')
        self.assertEqual(write_signs([mark("="), mark("=")]), "= =")
        self.assertEqual(write_signs([quoted("a"), quoted("b"), quoted("")]), '"a" "b" ""')

    def test_where_no_space_stands(self):
        a = name("a")
        for signs, text in [
            ([mark("("), a], "(a"),
            ([a, mark("(")], "a("),
            ([a, mark(")")], "a)"),
            ([a, mark(",")], "a,"),
            ([mark("("), mark("(")], "(("),
            ([mark("("), mark(")")], "()"),
            ([mark("("), mark(",")], "(,"),
            ([mark("("), mark("=")], "(="),
            ([mark(")"), mark("(")], ")("),
            ([mark(")"), mark(")")], "))"),
            ([mark(")"), mark(",")], "),"),
            ([mark(","), mark("(")], ",("),
            ([mark(","), mark(")")], ",)"),
            ([mark(","), mark(",")], ",,"),
            ([mark("="), mark("(")], "=("),
            ([mark("="), mark(")")], "=)"),
            ([mark("="), mark(",")], "=,"),
        ]:
            self.assertEqual(write_signs(signs), text)

    def test_where_one_space_stands(self):
        a = name("a")
        for signs, text in [
            ([mark(")"), a], ") a"),
            ([mark(","), a], ", a"),
            ([mark("="), a], "= a"),
            ([a, mark("=")], "a ="),
            ([mark(")"), mark("=")], ") ="),
            ([mark(","), mark("=")], ", ="),
        ]:
            self.assertEqual(write_signs(signs), text)

    def test_quoted_marks_are_no_marks(self):
        self.assertEqual(write_signs([quoted("("), quoted(")"), quoted(","), name("a")]), '"(" ")" "," a')

    def test_escapes(self):
        self.assertEqual(write_signs([quoted('"')]), r'"\""')
        self.assertEqual(write_signs([quoted("\\")]), r'"\\"')
        self.assertEqual(write_signs([quoted("\n")]), r'"\n"')
        self.assertEqual(write_signs([quoted('a"b\\c\nd\\n')]), r'"a\"b\\c\nd\\n"')

    def test_nothing_else_is_escaped(self):
        text = "".join(char for char in CHARS if is_text_character(char) and char not in '"\\')
        self.assertEqual(write_signs([quoted(text)]), '"' + text + '"')

    def test_spaces_within_quoted_texts_stay(self):
        self.assertEqual(write_signs([name("a"), quoted("  (  ,  )  ")]), 'a "  (  ,  )  "')

    def test_written_and_read_back(self):
        some = [
            name("a"),
            name("a1"),
            number(0),
            number(12),
            quoted(""),
            quoted('"\\\n'),
            quoted(" ("),
            mark("("),
            mark(")"),
            mark(","),
            mark("="),
        ]
        for many in range(4):
            for signs in itertools.product(some, repeat=many):
                self.assertEqual(split_line(write_signs(list(signs))), list(signs))

    def test_quoted_texts_written_and_read_back(self):
        for text in itertools.product('"\\n\n a', repeat=4):
            signs = [quoted("".join(text)), name("n")]
            self.assertEqual(split_line(write_signs(signs)), signs)

    def test_arguments_stay_and_results_are_new(self):
        signs = [name("a"), mark("("), quoted('"'), mark(")")]
        write_signs(signs)
        self.assertEqual(signs, [name("a"), mark("("), quoted('"'), mark(")")])
        first = split_line("a b")
        first.append(name("c"))
        self.assertEqual(split_line("a b"), [name("a"), name("b")])


class Literals(unittest.TestCase):
    def assert_literal(self, value, signs, text):
        self.assertEqual(literal(value), signs)
        self.assertEqual(write_signs(literal(value)), text)
        self.assertEqual(split_line(text), signs)

    def test_scalars(self):
        for value, sign, text in [
            (("none",), name("none"), "none"),
            (("bool", True), name("true"), "true"),
            (("bool", False), name("false"), "false"),
            (("int", 0), number(0), "0"),
            (("int", 1), number(1), "1"),
            (("int", 999999), number(999999), "999999"),
            (("text", ""), quoted(""), '""'),
            (("text", "none"), quoted("none"), '"none"'),
            (("text", "12"), quoted("12"), '"12"'),
            (("text", 'a "b" \\n'), quoted('a "b" \\n'), r'"a \"b\" \\n"'),
            (("text", "a" * 40), quoted("a" * 40), '"' + "a" * 40 + '"'),
        ]:
            self.assert_literal(value, [sign], text)

    def test_numbers_and_booleans_are_told_apart(self):
        self.assertIs(type(literal(("int", 1))[0][1]), int)
        self.assertEqual(literal(("bool", True)), [name("true")])

    def test_the_empty_map(self):
        self.assert_literal(("map", ()), [name("map"), mark("("), mark(")")], "map()")

    def test_a_map_of_one_entry(self):
        signs = [name("map"), mark("("), quoted("k"), mark(","), name("none"), mark(")")]
        self.assert_literal(("map", (("k", ("none",)),)), signs, 'map("k", none)')

    def test_a_map_of_several_entries_in_their_order(self):
        value = ("map", (("z", ("int", 3)), ("a b", ("bool", True)), ('"', ("text", "x")), ("n", ("bool", False))))
        signs = [name("map"), mark("(")]
        signs += [quoted("z"), mark(","), number(3), mark(",")]
        signs += [quoted("a b"), mark(","), name("true"), mark(",")]
        signs += [quoted('"'), mark(","), quoted("x"), mark(",")]
        signs += [quoted("n"), mark(","), name("false"), mark(")")]
        self.assert_literal(value, signs, r'map("z", 3, "a b", true, "\"", "x", "n", false)')

    def test_a_full_map(self):
        entries = tuple((f"k{at}", ("int", at)) for at in range(8))
        text = 'map("k0", 0, "k1", 1, "k2", 2, "k3", 3, "k4", 4, "k5", 5, "k6", 6, "k7", 7)'
        self.assertEqual(write_signs(literal(("map", entries))), text)
        self.assertEqual(len(literal(("map", entries))), 34)

    def test_results_are_new(self):
        for value in [("none",), ("int", 1), ("map", ()), ("map", (("k", ("int", 1)),))]:
            first = literal(value)
            expected = list(first)
            first.append(name("more"))
            self.assertEqual(literal(value), expected)


class Examples(Reading):
    def test_split_and_written(self):
        signs = split_line("set n = add( n,12)")
        self.assertEqual(
            signs,
            [
                ("name", "set"),
                ("name", "n"),
                ("mark", "="),
                ("name", "add"),
                ("mark", "("),
                ("name", "n"),
                ("mark", ","),
                ("number", 12),
                ("mark", ")"),
            ],
        )
        self.assertEqual(write_signs(signs), "set n = add(n, 12)")

    def test_refused(self):
        self.assert_refused("a 12b", 2)


if __name__ == "__main__":
    unittest.main()
