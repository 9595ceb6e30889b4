"""l3, c12: the entries of a log as lines."""

import unittest

from remoteviews.entries import read_entry, write_entry

PERCENT = chr(37)
NONE = ("none",)
MOST = 999999999
# Each with its line.
ENTRIES = [
    (("start", "shop", "layers main"), 'start shop "layers main"'),
    (("start", "a23456789012", ""), 'start a23456789012 ""'),
    (("start", "start", 'a\n  text "b\\n"\n'), 'start start "a\\n  text \\"b\\\\n\\"\\n"'),
    (("start", "none", "x" * 300), 'start none "' + "x" * 300 + '"'),
    (("connect",), "connect"),
    (("disconnect", 1), "disconnect 1"),
    (("disconnect", 0), "disconnect 0"),
    (("disconnect", MOST), f"disconnect {MOST}"),
    (("event", 1, 0, 5, "buy", NONE), "event 1 0 5 buy none"),
    (("event", MOST, MOST, MOST, "a23456789012", ("bool", True)), f"event {MOST} {MOST} {MOST} a23456789012 true"),
    (("event", 0, 1, 0, "event", ("bool", False)), "event 0 1 0 event false"),
    (("event", 1, 2, 5, "none", ("int", 999999)), "event 1 2 5 none 999999"),
    (("event", 1, 2, 5, "buy", ("int", 0)), "event 1 2 5 buy 0"),
    (("event", 1, 2, 5, "buy", ("text", "")), 'event 1 2 5 buy ""'),
    (("event", 1, 2, 5, "buy", ("text", ' a "b" \\ \\n (,) =')), 'event 1 2 5 buy " a \\"b\\" \\\\ \\\\n (,) ="'),
    (("event", 1, 2, 5, "buy", ("text", "x" * 40)), 'event 1 2 5 buy "' + "x" * 40 + '"'),
    (("discard", 1, 1, "failed"), "discard 1 1 failed"),
    (("discard", 1, 1, "applied"), "discard 1 1 applied"),
    (("discard", 0, 0, "unhandled"), "discard 0 0 unhandled"),
    (("discard", MOST, MOST, "stale"), f"discard {MOST} {MOST} stale"),
    (("discard", 3, 12, "removed"), "discard 3 12 removed"),
    (("discard", 3, 12, "conflict"), "discard 3 12 conflict"),
    (("resolve", "x", NONE), 'resolve "x" none'),
    (("resolve", "", ("bool", True)), 'resolve "" true'),
    (("resolve", "x" * 50, ("bool", False)), 'resolve "' + "x" * 50 + '" false'),
    (("resolve", 'a\n"b"\\', ("int", 12)), 'resolve "a\\n\\"b\\"\\\\" 12'),
    (("resolve", "x", ("text", 'q"')), 'resolve "x" "q\\""'),
    (("resolve", "x", ("map", ())), 'resolve "x" map()'),
    (("resolve", "x", ("map", (("a", ("int", 1)),))), 'resolve "x" map("a", 1)'),
    (("resolve", "x", ("map", (('"', NONE), ("\\", ("text", "\\n")), ("c c", ("bool", True))))),
     'resolve "x" map("\\"", none, "\\\\", "\\\\n", "c c", true)'),
    (("replace", "layers main"), 'replace "layers main"'),
    (("replace", ""), 'replace ""'),
    (("replace", 'a\n  b "c"'), 'replace "a\\n  b \\"c\\""'),
]
# The signs of such lines, but none of them in the written form of an entry.
NO_ENTRIES = [
    "", " ", "start", "start shop", "start \"x\"", "start shop x", "start shop 1", "start shop none", "start 1 \"x\"",
    'start "shop" "x"', 'start shop "x" "y"', 'start shop ("x")', 'start Shop "x"', 'start a234567890123 "x"',
    "connect 1", "connect connect", "connect,", "Connect", '"connect"', "connects", "(connect)",
    "disconnect", "disconnect x", 'disconnect "1"', "disconnect 1 2", "disconnect none", "disconnect -1",
    "disconnect 1000000000", "disconnect 01", "disconnect 00", "disconnect (1)", "disconnect 1 ,",
    "event", "event 1 0 5 buy", "event 1 0 buy none", "event 1 0 5 none", "event 1 0 5 buy none 1",
    "event 1 0 5 buy map()", "event 1 0 5 buy x", "event 1 0 5 1 none", 'event 1 0 5 "buy" none',
    "event 1 0 5 buy 1000000", "event 1 0 5 buy " + '"' + "x" * 41 + '"', 'event 1 0 5 buy "a\\nb"', "event 1 x 5 buy 1",
    "event 1000000000 0 5 buy none", "event 1 1000000000 5 buy none", "event 1 0 1000000000 buy none",
    "event 1 0 5 buy add(1, 2)", "event 1, 0, 5, buy, none", "event 1 0 5 Buy none",
    "discard", "discard 1 1", "discard 1 failed", "discard 1 1 failed failed", "discard 1 1 lost", "discard 1 1 1",
    'discard 1 1 "failed"', "discard 1 x failed", "discard 1 1000000000 failed", "discard 1000000000 1 failed",
    "resolve", 'resolve "x"', "resolve x 1", "resolve 1 1", 'resolve "x" y', 'resolve "x" 1 2', 'resolve "x" 1000000',
    'resolve "x" map("a", 1', 'resolve "x" map("a")', 'resolve "x" map("a", 1, "a", 2)', 'resolve "x" map("", 1)',
    'resolve "x" map("a", map())', 'resolve "x" map(a, 1)', 'resolve "x" map', 'resolve "x" map() map()',
    'resolve "x" map("a\\n", 1)', 'resolve "x" map("a234567890123", 1)', 'resolve "x" "a\\nb"',
    'resolve "x" "' + "y" * 41 + '"', 'resolve "x" add(1, 2)', 'resolve "x" resource("y")', 'resolve "x" inject(p, 1)',
    'resolve "x" map("a", 1, "b", 1, "c", 1, "d", 1, "e", 1, "f", 1, "g", 1, "h", 1, "i", 1)',
    'resolve "x" map("a" 1)', 'resolve "x", 1', 'resolve "a' + PERCENT + '" 1', 'resolve "a\nb" 1', 'resolve "a\tb" 1',
    "replace", "replace x", "replace 1", 'replace "x" "y"', 'replace "x', 'replace "x\\"', 'replace "\\t"',
    'replace "a' + PERCENT + '"', 'replace "a\nb"', 'begin shop "x"', "1", '"x"', "none", "map()", "add(1, 2)",
]
# The same entry in another form.
OTHER_FORMS = [
    ' start shop "x"', 'start shop "x" ', 'start  shop "x"', 'start shop  "x"', 'start shop"x"', "connect ", " connect",
    "disconnect  1", "disconnect 1 ", "event 1  0 5 buy none", "event 1 0 5 buy none ", 'event 1 0 5 buy"x"',
    "discard 1 1 failed ", "discard 1  1 failed", 'resolve "x"none', 'resolve"x" none', 'resolve "x" map( )',
    'resolve "x" map ()', 'resolve "x" map("a",1)', 'resolve "x" map("a" , 1)', 'resolve "x" map("a", 1 )',
    'replace"x"', 'replace  "x"', "connect\n", "\nconnect", "connect\t",
]


class Entries(unittest.TestCase):
    def test_written(self):
        for entry, line in ENTRIES:
            self.assertEqual(write_entry(entry), line)

    def test_read(self):
        for entry, line in ENTRIES:
            self.assertEqual(read_entry(line), entry)

    def test_each_kind(self):
        kinds = ["start", "connect", "disconnect", "event", "discard", "resolve", "replace"]
        self.assertEqual(sorted({entry[0] for entry, _ in ENTRIES}), sorted(kinds))

    def test_no_entries(self):
        for line in NO_ENTRIES:
            self.assertIsNone(read_entry(line), line)

    def test_other_forms(self):
        for line in OTHER_FORMS:
            self.assertIsNone(read_entry(line), line)

    def test_each_cut(self):
        for _, line in ENTRIES:
            # Of a number at the end digits can be cut: what is left is another entry.
            shortest = len(line.rstrip("0123456789")) + 1 if line[-1].isdigit() else len(line)
            for end in range(shortest):
                self.assertIsNone(read_entry(line[:end]), (line, end))

    def test_each_sign_left_out(self):
        for _, line in ENTRIES:
            parts = line.split(" ")
            for at in range(len(parts)):
                other = " ".join(parts[:at] + parts[at + 1:])
                found = read_entry(other)
                if found is not None:
                    # Only words within quoted texts can be left out.
                    self.assertEqual(write_entry(found), other)
                    self.assertIn('"', line)

    def test_another_space_anywhere(self):
        for entry, line in ENTRIES:
            for at in range(min(len(line), 80) + 1):
                found = read_entry(line[:at] + " " + line[at:])
                # Within a quoted text it is another text.
                self.assertNotEqual(found, entry, (line, at))


if __name__ == "__main__":
    unittest.main()
