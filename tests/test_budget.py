"""c2, r3: the budget of a render."""

import unittest

from pages import EIGHT, contents, drawn, page

EXCEEDED = ("error", "render budget exceeded")


def filler(number):
    """Lines that take so much: 9 for each repetition of 8 entries, 1 for each text."""
    return ["for aa bb in " + EIGHT] * (number // 9) + ['text "."'] * (number - number // 9 * 9)


class Budget(unittest.TestCase):
    def assert_takes(self, number, *lines, **more):
        """That these lines take so much: as much as can be taken behind them, and no more."""
        self.assertEqual(drawn(page(*lines, *filler(80 - number), **more))[0], "drawn", lines)
        self.assertEqual(drawn(page(*lines, *filler(81 - number), **more)), EXCEEDED, lines)

    def assert_words(self, expected, *lines, **more):
        self.assertEqual(contents(drawn(page(*lines, **more))), expected)

    def test_nothing(self):
        self.assert_takes(0)

    def test_states_take_nothing(self):
        self.assert_takes(0, states=("s = 1", "t = 2"))

    def test_texts(self):
        self.assert_takes(1, 'text "a"')
        self.assert_takes(3, 'text "a"', 'text "b"', 'text "c"')

    def test_elements_with_attributes_and_handlers(self):
        self.assert_takes(1, "element row")
        self.assert_takes(2, "element row", "  attr a = 1", "  attr b = none", "  on buy(x)", "    expect 1",
                          "    set n = x", "    emit sell(x)", "  on look(x)", '  text "a"', shared=("n = 1",))

    def test_conditions(self):
        self.assert_takes(1, "if true")
        self.assert_takes(2, "if true", '  text "a"', "else", '  text "b"', '  text "c"')
        self.assert_takes(3, "if false", '  text "a"', "else", '  text "b"', '  text "c"')
        self.assert_takes(1, "if false", '  text "a"')

    def test_repetitions(self):
        self.assert_takes(1, "for k v in map()")
        self.assert_takes(9, "for k v in " + EIGHT)
        self.assert_takes(17, "for k v in " + EIGHT, "  text k")

    def test_entries_that_are_not_rendered(self):
        self.assert_takes(1, f"for k v in {EIGHT} offset 0 limit 0", "  text k")
        self.assert_takes(7, f"for k v in {EIGHT} offset 3 limit 3", "  text k")
        self.assert_takes(5, f"for k v in {EIGHT} offset 6 limit 9", "  text k")

    def test_uses(self):
        ahead = ("component part(a)", "  state s = 1", "component more(a)", '  text "a"', "  use part(a)")
        self.assert_takes(1, "use part(1)", ahead=ahead)
        self.assert_takes(3, "use more(1)", ahead=ahead)

    def test_provided_values(self):
        self.assert_takes(1, "provide p = 1")
        self.assert_takes(2, "provide p = 1", '  text "a"')

    def test_tries(self):
        self.assert_takes(1, "try")
        self.assert_takes(2, "try", '  text "a"', "catch m", '  text "b"', '  text "c"')
        # The text that fails, and the one ahead of it, are not given back.
        self.assert_takes(5, "try", '  text "a"', "  text sub(1, 2)", "catch m", '  text "b"', '  text "c"')

    def test_suspenses(self):
        self.assert_takes(1, "suspense")
        self.assert_takes(2, "suspense", '  text "a"', "fallback", '  text "b"', '  text "c"')
        self.assert_takes(5, "suspense", '  text "a"', '  text resource("x")', "fallback", '  text "b"', '  text "c"')

    def test_portals(self):
        self.assert_takes(1, "portal top")
        self.assert_takes(2, "portal top", '  text "a"')

    def test_ahead_of_all_that_is_evaluated(self):
        for line in ("text sub(1, 2)", 'text resource("x")', "if 1", 'if resource("x")', "for k v in 1",
                     'for k v in resource("x")', "provide p = sub(1, 2)", 'provide p = resource("x")',
                     "use part(sub(1, 2))", 'use part(resource("x"))', "try", "suspense", "portal top", "element row"):
            self.assertEqual(drawn(page(*filler(80), line, ahead=("component part(a)",))), EXCEEDED, line)

    def test_attributes_behind_the_budget(self):
        self.assertEqual(drawn(page(*filler(80), "element row", '  attr a = resource("x")')), EXCEEDED)
        self.assertEqual(drawn(page(*filler(79), "element row", '  attr a = resource("x")')), ("waits", "x"))

    def test_the_entry_at_which_nothing_is_left(self):
        lines = ("for k v in " + EIGHT, "  text v")
        # 1 for the line, and 2 for each entry.
        self.assertEqual(drawn(page(*filler(79), *lines)), EXCEEDED)
        self.assertEqual(drawn(page(*filler(78), 'for k v in map("a", 1)'))[0], "drawn")
        self.assertEqual(drawn(page(*filler(79), 'for k v in map("a", 1)')), EXCEEDED)
        self.assertEqual(drawn(page(*filler(79), "for k v in map()"))[0], "drawn")
        self.assertEqual(drawn(page(*filler(79), 'for k v in map("a", 1) offset 1 limit 1'))[0], "drawn")
        # Nothing is left at the entry: so its block is not evaluated.
        self.assertEqual(drawn(page(*filler(79), 'for k v in map("a", 1)', '  text resource("x")')), EXCEEDED)
        self.assertEqual(drawn(page(*filler(78), 'for k v in map("a", 1)', '  text resource("x")')), EXCEEDED)
        self.assertEqual(drawn(page(*filler(77), 'for k v in map("a", 1)', '  text resource("x")')), ("waits", "x"))

    def test_within_a_try(self):
        inner = ["  " + line for line in filler(79)]
        # The text takes the 81st; of the block nothing is left.
        self.assert_words([], "try", *inner, '  text "a"')
        self.assertEqual(contents(drawn(page("try", *inner)))[-1], ".")

    def test_a_catch_has_no_budget_of_its_own(self):
        inner = ["  " + line for line in filler(79)]
        self.assertEqual(drawn(page("try", *inner, '  text "a"', "catch m", "  text m")), EXCEEDED)
        self.assert_words([], "try", *inner, '  text "a"', "catch m")

    def test_a_line_behind_a_try_that_took_all(self):
        inner = ["  " + line for line in filler(79)]
        self.assertEqual(drawn(page("try", *inner, '  text "a"', 'text "b"')), EXCEEDED)
        self.assert_words([], "try", "  try", *["  " + line for line in inner[:-1]], '    text "a"', '  text "b"',
                          '  text "c"')

    def test_a_use_in_a_catch_has_nothing_left(self):
        # The inner try takes the 2nd, the text in it fails, and so does the use; the outer one catches this.
        ahead = ("component part(m)", "  state s = m")
        inner = ["    " + line for line in filler(78)]
        told = drawn(page("try", "  try", *inner, '    text "a"', "  catch m", "    use part(m)", "catch l",
                          ahead=ahead))
        self.assertEqual(told, ("drawn", (), (((), 0, "page", ()),), ()))

    def test_each_render_has_its_own(self):
        template = page(*filler(80))
        self.assertEqual(drawn(template), drawn(template))
        self.assertEqual(drawn(template)[0], "drawn")


if __name__ == "__main__":
    unittest.main()
