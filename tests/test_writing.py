"""t5: the written form of templates."""

import unittest

from remoteviews.templates import parse_template
from remoteviews.writing import template_text

# All statements, with and without their options, as they are written.
WRITTEN = """layers main, top
shared stock = 2
shared tags = map("tea pot", 1, "b\\"\\\\", none)
component none()
component row(a, b)
  state n = add(a, stock)
  state m = inject(theme, map())
  element row
    attr tone = n
    attr wide = true
    on buy(x)
      expect m
      set stock = sub(stock, 1)
      set n = x
      emit bought(concat(x, " (,) "))
    on drop(x)
    text b
component page(me)
  state open = false
  if and(open, not(eq(me, 1)))
    use none()
  else
    use row(me, get(tags, "tea pot"))
  for k v in reverse(tags)
    text k
  for k v in tags offset 0 limit size(tags)
    provide theme = put(map(), k, v)
      use row(1, 2)
  try
    suspense
      text resource("x")
    fallback
      text "wait"
  catch e
    portal top
      text e"""

# Each line with other spaces between its signs, and as it is written.
SPACED = [
    ("layers  main ,top ", "layers main, top"),
    ("shared a=map( )", "shared a = map()"),
    ('shared b  =  map( "a b" ,1,"c",none )  ', 'shared b = map("a b", 1, "c", none)'),
    ("component one ( )", "component one()"),
    ("component two( p,q )", "component two(p, q)"),
    ("  state n=add( p ,q )  ", "  state n = add(p, q)"),
    ("component page (me)", "component page(me)"),
    ("  element   row", "  element row"),
    ("    attr c=1", "    attr c = 1"),
    ("    on   d ( x )", "    on d(x)"),
    ("      expect   me", "      expect me"),
    ("      set a=x", "      set a = x"),
    ('      emit e (concat( x,"  " ))', '      emit e(concat(x, "  "))'),
    ("  for k v in b   offset 1   limit 2", "  for k v in b offset 1 limit 2"),
    ("    use two( k,v )", "    use two(k, v)"),
    ("  use  one (  )", "  use one()"),
    ("  provide f=inject( f,0 )", "  provide f = inject(f, 0)"),
    ("  try  ", "  try"),
    ("  catch  g", "  catch g"),
    ("  portal  top  ", "  portal top"),
    ('  text"h"', '  text "h"'),
]


class Writing(unittest.TestCase):
    def test_written_as_read(self):
        self.assertEqual(template_text(parse_template(WRITTEN)), WRITTEN)

    def test_read_back_as_the_same_template(self):
        template = parse_template(WRITTEN)
        self.assertEqual(parse_template(template_text(template)), template)

    def test_each_line_that_a_template_begins_with(self):
        # Any beginning that ends in the root is a template, if that is the last component.
        lines = WRITTEN.split("\n")
        root = lines.index("component page(me)")
        for end in range(root + 1, len(lines) + 1):
            text = "\n".join(lines[:end])
            self.assertEqual(template_text(parse_template(text)), text)

    def test_other_spaces(self):
        spaced = "\n".join(line for line, _ in SPACED)
        written = "\n".join(line for _, line in SPACED)
        self.assertNotEqual(spaced, written)
        self.assertEqual(template_text(parse_template(spaced)), written)
        self.assertEqual(parse_template(written), parse_template(spaced))
        self.assertEqual(template_text(parse_template(written)), written)

    def test_from_the_tuples(self):
        template = (
            ("main",),
            (("a", ("literal", ("int", 1))),),
            (
                ("page", ("me",), (("n", ("variable", "me")),), ((0, ("element", "row")), (1, ("text", ("variable", "n"))))),
            ),
        )
        text = "layers main\nshared a = 1\ncomponent page(me)\n  state n = me\n  element row\n    text n"
        self.assertEqual(template_text(template), text)
        self.assertEqual(parse_template(text), template)

    def test_quoted_texts(self):
        text = 'layers main\ncomponent page(me)\n  text "  a \\"b\\" \\\\ (,)  "'
        self.assertEqual(template_text(parse_template(text)), text)

    def test_depths(self):
        lines = ["layers main", "component page(me)"] + ["  " * level + "element a" for level in range(1, 8)]
        self.assertEqual(template_text(parse_template("\n".join(lines))), "\n".join(lines))

    def test_beyond_the_bounds_nothing_is_raised(self):
        body = tuple((depth, ("element", "a")) for depth in range(9))
        template = (("a", "b", "c", "d"), (), (("page", ("p", "q", "r", "s"), (), body),))
        lines = ["layers a, b, c, d", "component page(p, q, r, s)"]
        lines += ["  " * level + "element a" for level in range(1, 10)]
        self.assertEqual(template_text(template), "\n".join(lines))


if __name__ == "__main__":
    unittest.main()
