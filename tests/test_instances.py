"""r6 to r8: instances, which are taken up, new, or kept."""

import unittest

from pages import EIGHT, NONE, contents, drawn, entries, page, step, whole, words

ROOT = ((), 1, "page", ())


def visited(told):
    return [(path, number, component) for path, number, component, _ in told[2]]


class TakenUp(unittest.TestCase):
    PART = ("component part(a)", "  state s = a", "  state t = add(s, 1)", "  text s")

    def test_all_new(self):
        told = drawn(page("use part(1)", "use part(2)", ahead=self.PART, states=("u = 7",)))
        self.assertEqual(told[2], (((), 0, "page", (("u", whole(7)),)),
                                   ((step(0),), 0, "part", (("s", whole(1)), ("t", whole(2)))),
                                   ((step(1),), 0, "part", (("s", whole(2)), ("t", whole(3))))))

    def test_taken_up_with_number_and_states(self):
        instances = (((), 4, "page", (("u", NONE),)), ((step(1),), 9, "part", (("s", whole(5)), ("t", whole(6)))))
        told = drawn(page("use part(1)", "use part(2)", ahead=self.PART, states=("u = 7",)), instances=instances)
        self.assertEqual(told[2], (instances[0], ((step(0),), 0, "part", (("s", whole(1)), ("t", whole(2)))),
                                   instances[1]))
        self.assertEqual(contents(told), ["1", "5"])
        self.assertEqual(told[3], ())

    def test_states_of_the_root(self):
        template = page("text u", states=("u = add(me, 1)",))
        self.assertEqual(contents(drawn(template, 3)), ["4"])
        self.assertEqual(contents(drawn(template, 3, instances=(((), 1, "page", (("u", whole(9)),)),))), ["9"])

    def test_kept_states_are_not_evaluated(self):
        template = page("text u", states=("u = sub(1, 2)",))
        self.assertEqual(drawn(template), ("error", "integer underflow"))
        self.assertEqual(contents(drawn(template, instances=(((), 1, "page", (("u", whole(9)),)),))), ["9"])

    def test_states_that_are_added_and_dropped(self):
        instances = (ROOT, ((step(0),), 2, "part", (("old", NONE), ("t", whole(5)), ("older", NONE))))
        told = drawn(page("use part(3)", ahead=self.PART), instances=instances)
        self.assertEqual(told[2][1], ((step(0),), 2, "part", (("s", whole(3)), ("t", whole(5)))))

    def test_added_states_use_those_ahead(self):
        instances = (ROOT, ((step(0),), 2, "part", (("s", whole(8)),)))
        told = drawn(page("use part(3)", ahead=self.PART), instances=instances)
        self.assertEqual(told[2][1], ((step(0),), 2, "part", (("s", whole(8)), ("t", whole(9)))))

    def test_states_in_another_order(self):
        instances = (ROOT, ((step(0),), 2, "part", (("t", whole(5)), ("s", whole(8)))))
        told = drawn(page("use part(3)", ahead=self.PART), instances=instances)
        self.assertEqual(told[2][1], ((step(0),), 2, "part", (("s", whole(8)), ("t", whole(5)))))

    def test_added_states_that_fail_or_wait(self):
        instances = (ROOT, ((step(1),), 2, "part", (("old", NONE),)))
        for expression, outcome in (("sub(1, 2)", ("error", "integer underflow")), ('resource("x")', ("waits", "x"))):
            ahead = ("component part()", "  state s = " + expression, '  text "p"')
            self.assertEqual(drawn(page('text "a"', "use part()", ahead=ahead), instances=instances), outcome)

    def test_another_component_at_the_path(self):
        ahead = self.PART + ("component other(a)", "  state s = 7", "  text s")
        instances = (ROOT, ((step(0),), 2, "other", (("s", whole(9)),)))
        told = drawn(page("use part(3)", ahead=ahead), instances=instances)
        self.assertEqual(told[2][1], ((step(0),), 0, "part", (("s", whole(3)), ("t", whole(4)))))
        self.assertEqual(told[3], ())

    def test_another_component_ahead_of_the_right_one(self):
        ahead = self.PART + ("component other(a)", "  state s = 7")
        right = ((step(0),), 3, "part", (("s", whole(4)), ("t", whole(6))))
        told = drawn(page("use part(3)", ahead=ahead),
                     instances=(ROOT, ((step(0),), 2, "other", (("s", whole(9)),)), right))
        self.assertEqual(told[2], (ROOT, right))

    def test_another_path(self):
        instances = (ROOT, ((step(1),), 2, "part", (("s", whole(9)), ("t", NONE))))
        told = drawn(page("use part(3)", ahead=self.PART), instances=instances)
        self.assertEqual(visited(told), [((), 1, "page"), ((step(0),), 0, "part")])

    def test_paths_by_keys(self):
        template = page('for k v in resource("x")', "  use part(v)", ahead=self.PART)
        instances = (ROOT, ((step(0, "b"), step(1)), 2, "part", (("s", whole(9)), ("t", NONE))))
        told = drawn(template, 1, {}, {"x": entries(a=whole(1), b=whole(2))}, instances)
        self.assertEqual(visited(told), [((), 1, "page"), ((step(0, "a"), step(1)), 0, "part"),
                                         ((step(0, "b"), step(1)), 2, "part")])
        self.assertEqual(contents(told), ["1", "9"])

    def test_no_root(self):
        instances = (((step(0),), 2, "part", (("s", whole(9)), ("t", NONE))),)
        told = drawn(page("use part(3)", ahead=self.PART), instances=instances)
        self.assertEqual(visited(told), [((), 0, "page"), ((step(0),), 0, "part")])

    def test_a_root_of_another_component(self):
        instances = (((), 1, "old", ()), ((step(0),), 2, "part", (("s", whole(9)), ("t", NONE))))
        told = drawn(page("use part(3)", ahead=self.PART), instances=instances)
        self.assertEqual(visited(told), [((), 0, "page"), ((step(0),), 0, "part")])
        self.assertEqual(contents(told), ["3"])
        self.assertEqual(told[3], ())

    def test_new_within_new_ones(self):
        ahead = self.PART + ("component outer(a)", "  use part(a)", "component older(a)", "  use part(a)")
        inner = ((step(0), step(0)), 3, "part", (("s", whole(9)), ("t", NONE)))
        template = page("use outer(1)", ahead=ahead)
        told = drawn(template, instances=(ROOT, ((step(0),), 2, "outer", ()), inner))
        self.assertEqual(visited(told), [((), 1, "page"), ((step(0),), 2, "outer"), ((step(0), step(0)), 3, "part")])
        self.assertEqual(contents(told), ["9"])
        told = drawn(template, instances=(ROOT, ((step(0),), 2, "older", ()), inner))
        self.assertEqual(visited(told), [((), 1, "page"), ((step(0),), 0, "outer"), ((step(0), step(0)), 0, "part")])
        self.assertEqual(contents(told), ["1"])

    def test_order_is_that_in_which_rendering_began(self):
        ahead = ("component low()", "component mid()", "  use low()", "component high()", "  use mid()", "  use low()")
        told = drawn(page("use low()", "use high()", "use mid()", ahead=ahead))
        self.assertEqual([(path, name) for path, _, name in visited(told)], [
            ((), "page"), ((step(0),), "low"), ((step(1),), "high"), ((step(1), step(0)), "mid"),
            ((step(1), step(0), step(0)), "low"), ((step(1), step(1)), "low"), ((step(2),), "mid"),
            ((step(2), step(0)), "low")])

    def test_not_those_of_which_nothing_is_left(self):
        template = page("try", "  use part(1)", "  text sub(1, 2)", "catch m", "  use part(2)", ahead=self.PART)
        told = drawn(template, instances=(ROOT, ((step(4),), 7, "part", (("s", NONE), ("t", NONE)))))
        self.assertEqual(visited(told), [((), 1, "page"), ((step(4),), 7, "part")])
        self.assertEqual(contents(told), [""])


class Kept(unittest.TestCase):
    """The paths through what is put aside."""

    PART = ("component part(a)", "  state s = a", "  text s")

    def part(self, number, *path):
        return (path, number, "part", (("s", whole(number)),))

    def test_none(self):
        template = page("use part(1)", ahead=self.PART)
        told = drawn(template, instances=(ROOT, self.part(2, step(0)), self.part(3, step(1))))
        self.assertEqual(told[3], ())

    def test_a_try_that_failed(self):
        lines = ("try", "  use part(1)", "  text resource(inject(p, none))", "  use part(2)", "catch m",
                 "  use part(3)", "use part(4)")
        instances = (ROOT, self.part(2, step(1)), self.part(3, step(3)), self.part(4, step(5)), self.part(5, step(6)))
        told = drawn(page(*lines, ahead=self.PART), instances=instances)
        self.assertEqual(told[3], (instances[1], instances[2]))
        self.assertEqual(told[2], (ROOT, instances[3], instances[4]))

    def test_a_try_that_did_not_fail(self):
        lines = ("try", "  if false", "    use part(1)", "catch m", "  use part(3)")
        instances = (ROOT, self.part(2, step(2)), self.part(3, step(4)))
        told = drawn(page(*lines, ahead=self.PART), instances=instances)
        self.assertEqual((told[2], told[3]), ((ROOT,), ()))

    def test_instances_of_a_catch_are_not_kept(self):
        lines = ("try", "  text sub(1, 2)", "catch m", "  if false", "    use part(1)")
        told = drawn(page(*lines, ahead=self.PART), instances=(ROOT, self.part(2, step(4))))
        self.assertEqual(told[3], ())

    def test_a_suspense_that_waited(self):
        lines = ("suspense", "  use part(1)", '  text resource("x")', "  use part(2)", "fallback", "  use part(3)")
        instances = (ROOT, self.part(2, step(1)), self.part(3, step(3)), self.part(4, step(5)))
        template = page(*lines, ahead=self.PART)
        told = drawn(template, instances=instances)
        self.assertEqual((told[2], told[3]), ((ROOT, instances[3]), (instances[1], instances[2])))
        told = drawn(template, resources={"x": NONE}, instances=instances)
        self.assertEqual((told[2], told[3]), ((ROOT, instances[1], instances[2]), ()))

    def test_instances_of_a_fallback_are_not_kept(self):
        lines = ("suspense", '  text resource("x")', "fallback", "  if false", "    use part(1)")
        told = drawn(page(*lines, ahead=self.PART), instances=(ROOT, self.part(2, step(4))))
        self.assertEqual(told[3], ())

    def test_what_is_within_them(self):
        ahead = self.PART + ("component outer(a)", "  use part(a)")
        lines = ("try", "  element row", '    for k v in map("a", 1)', "      use outer(1)", "  text sub(1, 2)")
        outer = ((step(2, "a"), step(3)), 2, "outer", ())
        inner = self.part(3, step(2, "a"), step(3), step(0))
        # Paths that no line of the block has now go through it, too.
        others = (self.part(4, step(2, "z"), step(3)), self.part(5, step(1)), self.part(6, step(4), step(9)))
        told = drawn(page(*lines, ahead=ahead), instances=(ROOT, outer, inner) + others)
        self.assertEqual(told[3], (outer, inner) + others)

    def test_lines_beside_the_block(self):
        lines = ("use part(1)", "try", "  text sub(1, 2)", 'text "a"')
        instances = (ROOT, self.part(2, step(1)), self.part(3, step(3)), self.part(4, step(2)))
        told = drawn(page(*lines, ahead=self.PART), instances=instances)
        self.assertEqual(told[3], (self.part(4, step(2)),))

    def test_a_try_in_an_entry(self):
        lines = ('for k v in map("a", 0, "b", 1)', "  try", "    use part(v)", "    text sub(v, 1)")
        instances = (ROOT, self.part(2, step(0, "a"), step(2)), self.part(3, step(0, "b"), step(2)),
                     self.part(4, step(0, "c"), step(2)), self.part(5, step(2)))
        told = drawn(page(*lines, ahead=self.PART), instances=instances)
        self.assertEqual((told[2], told[3]), ((ROOT, instances[2]), (instances[1],)))

    def test_a_try_in_an_instance(self):
        ahead = self.PART + ("component outer(a)", "  try", "    use part(a)", "    text sub(a, 1)")
        outer = ((step(0),), 2, "outer", ())
        inner = self.part(3, step(0), step(1))
        instances = (ROOT, outer, inner, self.part(4, step(1)), self.part(5, step(1), step(1)))
        told = drawn(page("use outer(0)", ahead=ahead), instances=instances)
        self.assertEqual((told[2], told[3]), ((ROOT, outer), (inner,)))

    def test_an_instance_that_failed_in_a_try(self):
        ahead = ("component part(a)", "  state s = a", "  text sub(s, 5)")
        instances = (ROOT, self.part(2, step(1)))
        told = drawn(page("try", "  use part(9)", ahead=ahead), instances=instances)
        self.assertEqual((told[2], told[3]), ((ROOT,), (instances[1],)))

    def test_entries_that_are_not_rendered(self):
        template = page(f"for k v in {EIGHT} offset 2 limit 3", "  use part(v)", ahead=self.PART)
        parts = tuple([self.part(9 - at, step(0, key), step(1)) for at, key in enumerate("hgfedcba")])
        told = drawn(template, instances=(ROOT,) + parts)
        rendered = tuple([self.part(at, step(0, key), step(1)) for at, key in ((4, "c"), (5, "d"), (6, "e"))])
        self.assertEqual(told[2], (ROOT,) + rendered)
        self.assertEqual([instance[1] for instance in told[3]], [9, 8, 7, 3, 2])

    def test_entries_that_there_are_not(self):
        template = page('for k v in map("a", 1, "b", 2) offset 0 limit 1', "  use part(v)", ahead=self.PART)
        instances = (ROOT, self.part(2, step(0, "z"), step(1)), self.part(3, step(0, "b"), step(1)),
                     self.part(4, step(0), step(1)))
        told = drawn(template, instances=instances)
        self.assertEqual(visited(told), [((), 1, "page"), ((step(0, "a"), step(1)), 0, "part")])
        self.assertEqual(told[3], (instances[2],))

    def test_none_of_the_entries_is_rendered(self):
        template = page('for k v in map("a", 1, "b", 2) offset 2 limit 1', "  use part(v)", ahead=self.PART)
        instances = (ROOT, self.part(2, step(0, "b"), step(1)), self.part(3, step(0, "a"), step(1)))
        self.assertEqual(drawn(template, instances=instances)[3], instances[1:])

    def test_entries_of_a_whole_repetition(self):
        template = page('for k v in map("a", 1)', "  if false", "    use part(v)", ahead=self.PART)
        instances = (ROOT, self.part(2, step(0, "a"), step(2)), self.part(3, step(0, "b"), step(2)))
        self.assertEqual(drawn(template, instances=instances)[3], ())

    def test_entries_of_a_repetition_in_an_entry(self):
        template = page('for k v in map("a", 1, "b", 2)', '  for j w in map("c", 1) offset v limit 1', "    use part(v)",
                        ahead=self.PART)
        instances = (ROOT, self.part(2, step(0, "a"), step(1, "c"), step(2)),
                     self.part(3, step(0, "b"), step(1, "c"), step(2)),
                     self.part(4, step(0, "x"), step(1, "c"), step(2)))
        self.assertEqual(drawn(template, instances=instances)[3], instances[1:3])

    def test_entries_of_two_repetitions(self):
        lines = ('for k v in map("a", 1) offset 1 limit 1', "for k v in map(\"b\", 1)", "  use part(v)")
        instances = (ROOT, self.part(2, step(1, "a"), step(2)), self.part(3, step(0, "a"), step(1)),
                     self.part(4, step(0, "b"), step(1)))
        self.assertEqual(drawn(page(*lines, ahead=self.PART), instances=instances)[3], (instances[2],))

    def test_paths_that_end_at_the_place(self):
        ahead = self.PART + ("component outer()", "  try", "    text sub(1, 2)")
        outer = ((step(1),), 2, "outer", ())
        others = (((), 3, "old", ()), ((step(1),), 4, "old", ()))
        told = drawn(page("try", "  use outer()", "try", "  text sub(1, 2)", ahead=ahead),
                     instances=(ROOT, outer) + others)
        self.assertEqual((told[2], told[3]), ((ROOT, outer), ()))

    def test_in_the_order_of_the_client(self):
        lines = ("try", "  use part(1)", "  text sub(1, 2)", "suspense", "  use part(1)", '  text resource("x")',
                 'for k v in map("a", 1) offset 1 limit 1', "  use part(1)")
        one = (self.part(2, step(6, "a"), step(7)), self.part(3, step(4)), self.part(4, step(1)))
        for kept in (one, one[::-1], one[1:] + one[:1]):
            told = drawn(page(*lines, ahead=self.PART), instances=kept[:1] + (ROOT,) + kept[1:])
            self.assertEqual(told[3], kept)

    def test_none_in_new_instances(self):
        ahead = self.PART + ("component outer()", "  try", "    use part(1)", "    text sub(1, 2)", "  suspense",
                             "    use part(1)", '    text resource("x")', "  for k v in map(\"a\", 1) offset 1 limit 1",
                             "    use part(1)")
        parts = (self.part(3, step(0), step(1)), self.part(4, step(0), step(4)),
                 self.part(5, step(0), step(6, "a"), step(7)))
        template = page("use outer()", ahead=ahead)
        told = drawn(template, instances=(ROOT, ((step(0),), 2, "outer", ())) + parts)
        self.assertEqual(told[3], parts)
        told = drawn(template, instances=(ROOT, ((step(0),), 2, "older", ())) + parts)
        self.assertEqual(told[3], ())
        told = drawn(template, instances=(ROOT,) + parts)
        self.assertEqual(told[3], ())

    def test_none_in_a_new_root(self):
        template = page("try", "  use part(1)", "  text sub(1, 2)", ahead=self.PART)
        parts = (self.part(2, step(1)),)
        self.assertEqual(drawn(template, instances=parts)[3], ())
        self.assertEqual(drawn(template, instances=(((), 1, "old", ()),) + parts)[3], ())
        self.assertEqual(drawn(template, instances=(ROOT,) + parts)[3], parts)

    def test_an_old_one_within_a_new_one(self):
        # The place of the outer try is in an instance that is not new.
        ahead = self.PART + ("component outer()", "  use part(1)")
        template = page("try", "  use outer()", "  text sub(1, 2)", ahead=ahead)
        parts = (((step(1),), 2, "older", ()), self.part(3, step(1), step(0)))
        told = drawn(template, instances=(ROOT,) + parts)
        self.assertEqual(told[3], parts)

    def test_put_aside_within_a_block_of_which_nothing_is_left(self):
        lines = ("try", "  try", "    use part(1)", "    text sub(1, 2)", "  catch m", "    text sub(2, 3)",
                 "catch m", "  text m")
        instances = (ROOT, self.part(2, step(2)))
        told = drawn(page(*lines, ahead=self.PART), instances=instances)
        self.assertEqual((contents(told), told[3]), (["integer underflow"], instances[1:]))

    def test_visited_ones_are_not_kept(self):
        template = page("for k v in %s offset 0 limit 1" % EIGHT, "  use part(v)", "try", "  text sub(1, 2)",
                        "use part(2)", ahead=self.PART)
        instances = (ROOT, self.part(2, step(0, "a"), step(1)), self.part(3, step(4)))
        told = drawn(template, instances=instances)
        self.assertEqual((told[2], told[3]), (instances, ()))

    def test_a_kept_one_is_taken_up_later(self):
        template = page("suspense", "  use part(1)", '  text resource("x")', ahead=self.PART)
        instances = (ROOT, self.part(2, step(1)))
        told = drawn(template, instances=instances)
        self.assertEqual((told[2], told[3]), ((ROOT,), instances[1:]))
        told = drawn(template, resources={"x": words("y")}, instances=told[2] + told[3])
        self.assertEqual((told[2], told[3]), (instances, ()))
        self.assertEqual(contents(told), ["2", "y"])


if __name__ == "__main__":
    unittest.main()
