"""m1 to m4, c10, c11: updates and reports as texts."""

import unittest

from remoteviews.errors import BadMessage, ViewError
from remoteviews.messages import read_report, read_update, write_report, write_update

PERCENT = chr(37)
MOST = 999999999
OUTCOMES = ["applied", "failed", "unhandled", "stale", "removed", "conflict"]
# Each operation with its line.
OPERATIONS = [
    (("layer", 1, "main"), "layer 1 main"),
    (("layer", MOST, "none"), f"layer {MOST} none"),
    (("remove", 0), "remove 0"),
    (("remove", 12), "remove 12"),
    (("element", 5, 1, 0, "row"), "element 5 in 1 after 0 row"),
    (("element", MOST, MOST, MOST, "in"), f"element {MOST} in {MOST} after {MOST} in"),
    (("text", 6, 5, 7, "hi"), 'text 6 in 5 after 7 "hi"'),
    (("text", 6, 5, 0, ""), 'text 6 in 5 after 0 ""'),
    (("text", 6, 5, 0, ' a "b" \\ \\n (,) '), 'text 6 in 5 after 0 " a \\"b\\" \\\\ \\\\n (,) "'),
    (("text", 6, 5, 0, "a" * 40), f'text 6 in 5 after 0 "{"a" * 40}"'),
    (("move", 6, 0), "move 6 after 0"),
    (("move", 6, MOST), f"move 6 after {MOST}"),
    (("attr", 5, "tone", ("none",)), "attr 5 tone none"),
    (("attr", 5, "tone", ("bool", True)), "attr 5 tone true"),
    (("attr", 5, "tone", ("bool", False)), "attr 5 tone false"),
    (("attr", 5, "tone", ("int", 0)), "attr 5 tone 0"),
    (("attr", 5, "tone", ("int", 999999)), "attr 5 tone 999999"),
    (("attr", 5, "tone", ("text", "none")), 'attr 5 tone "none"'),
    (("attr", 5, "none", ("text", "\\" * 40)), f'attr 5 none "{chr(92) * 80}"'),
    (("content", 6, "x"), 'content 6 "x"'),
    (("content", 6, '"' * 40), 'content 6 "' + '\\"' * 40 + '"'),
]
SCALARS = [
    (("none",), "none"),
    (("bool", True), "true"),
    (("bool", False), "false"),
    (("int", 0), "0"),
    (("int", 999999), "999999"),
    (("text", ""), '""'),
    (("text", '"\\'), '"\\"\\\\"'),
    (("text", "a" * 40), '"' + "a" * 40 + '"'),
]
# What is no scalar, in a line.
NO_SCALARS = ["1000000", '"' + "a" * 41 + '"', '"a\\nb"', "a", "map()", 'map("a", 1)', "None", "not(true)", "1 2", "", "=", "01"]


class Messages(unittest.TestCase):
    def assert_none(self, reader, text):
        with self.assertRaises(BadMessage, msg=repr(text)) as seen:
            reader(text)
        self.assertIsInstance(seen.exception, ViewError)

    def assert_no_update(self, *lines):
        self.assert_none(read_update, "\n".join(lines))

    def assert_no_report(self, *lines):
        self.assert_none(read_report, "\n".join(lines))

    def assert_update(self, update, *lines):
        text = "\n".join(lines)
        self.assertEqual(write_update(update), text)
        self.assertEqual(read_update(text), update)

    def assert_report(self, report, *lines):
        text = "\n".join(lines)
        self.assertEqual(write_report(report), text)
        self.assertEqual(read_report(text), report)

    def assert_rigid(self, reader, lines):
        """Nothing can be put into the text of a message, or taken away from it."""
        text = "\n".join(lines)
        reader(text)
        for line in range(len(lines)):
            self.assert_none(reader, "\n".join(lines[:line] + lines[line + 1:]))
            self.assert_none(reader, "\n".join(lines[:line] + [""] + lines[line:]))
            self.assert_none(reader, "\n".join(lines[:line] + ["end"] + lines[line:]))
            self.assert_none(reader, "\n".join(lines[:line] + ["foo 1"] + lines[line:]))
            self.assert_none(reader, "\n".join(lines[:line] + [" " + lines[line]] + lines[line + 1:]))
            self.assert_none(reader, "\n".join(lines[:line] + [lines[line] + " "] + lines[line + 1:]))
            words = lines[line].split(" ")
            for place in range(1, len(words)):
                for between in ["", "  ", "\t", ", ", " = "]:
                    spoilt = " ".join(words[:place]) + between + " ".join(words[place:])
                    self.assert_none(reader, "\n".join(lines[:line] + [spoilt] + lines[line + 1:]))
        for spoilt in [text + "\n", "\n" + text, text + " ", text + "\nend", text[:-1], text.replace("\n", "\r\n"), text + "s"]:
            self.assert_none(reader, spoilt)

    def assert_own_words(self, reader, lines):
        """Each word but those for names and scalars stands as it is told."""
        for line, (head, *_) in enumerate(row.split(" ") for row in lines):
            for word in ["foo", "1", '"' + head + '"', head.upper(), head + "s", "(", ""]:
                spoilt = word + lines[line][len(head):]
                self.assert_none(reader, "\n".join(lines[:line] + [spoilt] + lines[line + 1:]))


class Neither(Messages):
    def test_no_message_at_all(self):
        for text in ["", "\n", "end", "\nend", "end\nend", "foo\nend", " ", "?", "1\nend", '"update"\nend']:
            self.assert_none(read_update, text)
            self.assert_none(read_report, text)

    def test_one_is_not_the_other(self):
        update = "update shop 1 from 0 to 1 outcomes 1\nend"
        report = "events shop 1 version 1\nend"
        self.assert_none(read_report, update)
        self.assert_none(read_update, report)
        self.assertEqual(read_update(update)[0], read_report(report)[0])


class Updates(Messages):
    HEAD = "update shop 1 from 0 to 1 outcomes 1"

    def test_the_smallest(self):
        self.assert_update(("shop", 1, 0, 1, 1, (), ()), self.HEAD, "end")
        self.assert_update(("a", 0, 0, 1, 1, (), ()), "update a 0 from 0 to 1 outcomes 1", "end")

    def test_each_operation(self):
        for operation, line in OPERATIONS:
            self.assert_update(("shop", 1, 0, 1, 1, (), (operation,)), self.HEAD, line, "end")

    def test_many_operations(self):
        operations = tuple(operation for operation, _ in OPERATIONS)
        lines = [line for _, line in OPERATIONS]
        self.assert_update(("shop", 1, 0, 1, 1, (), operations), self.HEAD, *lines, "end")
        self.assert_update(("shop", 1, 0, 1, 1, (), operations * 20), self.HEAD, *lines * 20, "end")

    def test_operations_need_not_apply(self):
        operations = (("remove", 5), ("remove", 5), ("layer", 0, "a"), ("element", 1, 7, 1, "a"))
        lines = ["remove 5", "remove 5", "layer 0 a", "element 1 in 7 after 1 a"]
        self.assert_update(("shop", 1, 0, 1, 1, (), operations), self.HEAD, *lines, "end")

    def test_scalars(self):
        for scalar, text in SCALARS:
            self.assert_update(("shop", 1, 0, 1, 1, (), (("attr", 5, "a", scalar),)), self.HEAD, f"attr 5 a {text}", "end")
        for text in NO_SCALARS:
            self.assert_no_update(self.HEAD, f"attr 5 a {text}", "end")

    def test_booleans_and_integers_are_told_apart(self):
        text = f"{self.HEAD}\nattr 5 a true\nattr 5 a 1\nend"
        operations = read_update(text)[6]
        self.assertIs(operations[0][3][1], True)
        self.assertIs(type(operations[1][3][1]), int)

    def test_contents(self):
        for wrong in ['"' + "a" * 41 + '"', '"a\\nb"', '"\\n"', "a", "1", "none", "", '"a" "b"', f'"{PERCENT}"', '"a', '"\\a"']:
            self.assert_no_update(self.HEAD, f"text 5 in 1 after 0 {wrong}", "end")
            self.assert_no_update(self.HEAD, f"content 5 {wrong}", "end")

    def test_each_outcome(self):
        for outcome in OUTCOMES:
            self.assert_update(("shop", 1, 0, 1, 1, (outcome,), ()), f"{self.HEAD} {outcome}", "end")
        for wrong in ["gap", "end", "1", '"applied"', "Applied", "none", "applied,", "applied ="]:
            self.assert_no_update(f"{self.HEAD} {wrong}", "end")
            self.assert_no_update(f"{self.HEAD} applied {wrong}", "end")

    def test_up_to_eight_outcomes(self):
        row = OUTCOMES + OUTCOMES
        for many in range(9):
            outcomes = tuple(row[:many])
            self.assert_update(("shop", 1, 0, 1, 1, outcomes, ()), " ".join([self.HEAD, *outcomes]), "end")
        for many in [9, 10, 12]:
            self.assert_no_update(" ".join([self.HEAD, *row[:many]]), "end")

    def test_numbers(self):
        for client, base, version, first in [(0, 0, 1, 1), (1, 1, 1, 1), (7, 3, 12, 5), (MOST, MOST, MOST, MOST), (4, 0, MOST, 2)]:
            head = f"update shop {client} from {base} to {version} outcomes {first}"
            self.assert_update(("shop", client, base, version, first, (), ()), head, "end")
        for client, base, version, first in [
            (1, 2, 1, 1),
            (1, MOST, MOST - 1, 1),
            (1, 0, 0, 1),
            (1, 0, 1, 0),
            (1, 0, 0, 0),
            (1000000000, 0, 1, 1),
            (1, 0, 1000000000, 1),
            (1, 0, 1, 1000000000),
            ("01", 0, 1, 1),
            (1, "00", 1, 1),
            (1, 0, "01", 1),
            (1, 0, 1, "01"),
            ("-1", 0, 1, 1),
            ("a", 0, 1, 1),
            (1, '"0"', 1, 1),
            (1, 0, "true", 1),
            (1, 0, 1, "none"),
        ]:
            self.assert_no_update(f"update shop {client} from {base} to {version} outcomes {first}", "end")

    def test_numbers_of_operations(self):
        for line in [line for _, line in OPERATIONS]:
            words = line.split(" ")
            for place, word in enumerate(words):
                if word.isdigit() and words[place - 1] not in ("tone", "none"):
                    for wrong in ["1000000000", "01", "a", '"1"', "-1", "true", "1.0", ""]:
                        spoilt = " ".join(words[:place] + [wrong] + words[place + 1:])
                        self.assert_no_update(self.HEAD, spoilt, "end")

    def test_names(self):
        for name in ["a", "a1", "a" * 12, "none", "update", "end"]:
            operations = (("layer", 1, name), ("element", 5, 1, 0, name), ("attr", 5, name, ("none",)))
            lines = [f"layer 1 {name}", f"element 5 in 1 after 0 {name}", f"attr 5 {name} none"]
            head = f"update {name} 1 from 0 to 1 outcomes 1"
            self.assert_update((name, 1, 0, 1, 1, (), operations), head, *lines, "end")
        for name in ["a" * 13, "A", "1", '"a"', "1a", "a_b", ""]:
            self.assert_no_update(f"update {name} 1 from 0 to 1 outcomes 1", "end")
            self.assert_no_update(self.HEAD, f"layer 1 {name}", "end")
            self.assert_no_update(self.HEAD, f"element 5 in 1 after 0 {name}", "end")
            self.assert_no_update(self.HEAD, f"attr 5 {name} none", "end")

    def test_nothing_else(self):
        lines = [
            "update shop 1 from 0 to 3 outcomes 2 applied stale",
            "layer 1 main",
            "remove 9",
            "element 5 in 1 after 0 row",
            'text 6 in 5 after 0 "hi"',
            "move 7 after 5",
            "attr 5 tone none",
            'content 8 "a"',
            "end",
        ]
        self.assert_own_words(read_update, lines)
        # Of two lines of operations, and of two outcomes, one can be left out.
        for line in range(1, 8):
            self.assert_rigid_line(lines, line)
        self.assert_rigid(read_update, [lines[0].replace(" applied stale", ""), "end"])

    def assert_rigid_line(self, lines, line):
        words = lines[line].split(" ")
        for place in range(len(words)):
            for spoilt in [words[:place] + words[place + 1:], words[:place] + ["1"] + words[place:], words[:place] + ["a"] + words[place:]]:
                self.assert_no_update(*lines[:line], " ".join(spoilt), *lines[line + 1:])
        for spoilt in [" " + lines[line], lines[line] + " ", lines[line].replace(" ", "  ", 1), "", lines[line] + ",", "end"]:
            self.assert_no_update(*lines[:line], spoilt, *lines[line + 1:])

    def test_spaces_that_are_left_out(self):
        self.assert_no_update(self.HEAD, 'content 5"a"', "end")
        self.assert_no_update(self.HEAD, 'attr 5 a"b"', "end")
        self.assert_no_update(self.HEAD, 'text 6 in 5 after 0"a"', "end")

    def test_lines_in_the_wrong_place(self):
        self.assert_no_update("layer 1 main", self.HEAD, "end")
        self.assert_no_update(self.HEAD, "end", "layer 1 main")
        self.assert_no_update("end", self.HEAD)
        self.assert_no_update(self.HEAD, self.HEAD, "end")
        self.assert_no_update(self.HEAD, "layer 1 main")
        self.assert_no_update(self.HEAD)
        self.assert_no_update(self.HEAD, "end", "end")
        self.assert_no_update(self.HEAD, "end 1")
        self.assert_no_update(self.HEAD, "event 1 version 1 node 5 buy none", "end")

    def test_marks_do_not_belong_there(self):
        for line in ["layer(1, main)", "layer = 1 main", "layer 1, main", "(layer 1 main)", "remove (5)", "move 5 after = 0"]:
            self.assert_no_update(self.HEAD, line, "end")

    def test_beyond_the_bounds_writing_raises_nothing(self):
        text = write_update(("shop", 1, 2, 1, 0, ("stale",) * 9, (("text", 5, 1, 0, "a" * 41),)))
        self.assert_none(read_update, text)


class Reports(Messages):
    HEAD = "events shop 1 version 1"

    def test_the_smallest(self):
        self.assert_report(("shop", 1, 1, ()), self.HEAD, "end")
        self.assert_report(("a", 0, 0, ()), "events a 0 version 0", "end")

    def test_scalars(self):
        for scalar, text in SCALARS:
            self.assert_report(
                ("shop", 1, 1, ((1, 1, 5, "buy", scalar),)), self.HEAD, f"event 1 version 1 node 5 buy {text}", "end"
            )
        for text in NO_SCALARS:
            self.assert_no_report(self.HEAD, f"event 1 version 1 node 5 buy {text}", "end")

    def test_up_to_eight_events(self):
        for first in [1, 2, 41, MOST - 7]:
            events = tuple((first + at, at, 5 + at, f"e{at}", ("int", at)) for at in range(8))
            lines = [f"event {first + at} version {at} node {5 + at} e{at} {at}" for at in range(8)]
            for many in range(9):
                self.assert_report(("shop", 1, 1, events[:many]), self.HEAD, *lines[:many], "end")
        lines = [f"event {at} version 1 node 5 buy none" for at in range(1, 12)]
        for many in [9, 10, 11]:
            self.assert_no_report(self.HEAD, *lines[:many], "end")

    def test_sequences(self):
        for row in [[1], [5], [1, 2], [2, 3, 4], [MOST - 1, MOST]]:
            lines = [f"event {sequence} version 1 node 5 buy none" for sequence in row]
            self.assertEqual([event[0] for event in read_report("\n".join([self.HEAD, *lines, "end"]))[3]], row)
        for row in [[0], [0, 1], [1, 1], [1, 3], [2, 1], [1, 2, 2], [1, 2, 4], [1, 2, 1], [5, 6, 8], [MOST, MOST + 1]]:
            lines = [f"event {sequence} version 1 node 5 buy none" for sequence in row]
            self.assert_no_report(self.HEAD, *lines, "end")

    def test_numbers(self):
        for client, displayed, version, node in [(0, 0, 0, 0), (1, 2, 3, 4), (MOST, MOST, MOST, MOST), (1, 0, MOST, 1)]:
            self.assert_report(
                ("shop", client, displayed, ((1, version, node, "buy", ("none",)),)),
                f"events shop {client} version {displayed}",
                f"event 1 version {version} node {node} buy none",
                "end",
            )
        for wrong in ["1000000000", "01", "-1", "a", '"1"', "true", "1.0", ""]:
            self.assert_no_report(f"events shop {wrong} version 1", "end")
            self.assert_no_report(f"events shop 1 version {wrong}", "end")
            self.assert_no_report(self.HEAD, f"event {wrong} version 1 node 5 buy none", "end")
            self.assert_no_report(self.HEAD, f"event 1 version {wrong} node 5 buy none", "end")
            self.assert_no_report(self.HEAD, f"event 1 version 1 node {wrong} buy none", "end")

    def test_names(self):
        for name in ["a", "a1", "a" * 12, "none", "event", "end"]:
            self.assert_report(
                (name, 1, 1, ((1, 1, 5, name, ("none",)),)),
                f"events {name} 1 version 1",
                f"event 1 version 1 node 5 {name} none",
                "end",
            )
        for name in ["a" * 13, "A", "1", '"a"', "1a", "a_b", ""]:
            self.assert_no_report(f"events {name} 1 version 1", "end")
            self.assert_no_report(self.HEAD, f"event 1 version 1 node 5 {name} none", "end")

    def test_nothing_else(self):
        lines = [self.HEAD, "event 3 version 1 node 5 buy none", 'event 4 version 2 node 6 sell "a"', "end"]
        self.assert_own_words(read_report, lines)
        self.assert_rigid(read_report, [self.HEAD, "end"])
        for line in [1, 2]:
            words = lines[line].split(" ")
            for place in range(len(words)):
                for spoilt in [words[:place] + words[place + 1:], words[:place] + ["7"] + words[place:]]:
                    self.assert_no_report(*lines[:line], " ".join(spoilt), *lines[line + 1:])
            for spoilt in [" " + lines[line], lines[line] + " ", lines[line].replace(" ", "  ", 1), "", "end"]:
                self.assert_no_report(*lines[:line], spoilt, *lines[line + 1:])
        self.assert_no_report(self.HEAD, 'event 1 version 1 node 5 buy"a"', "end")

    def test_lines_in_the_wrong_place(self):
        event = "event 1 version 1 node 5 buy none"
        self.assert_no_report(event, self.HEAD, "end")
        self.assert_no_report(self.HEAD, "end", event)
        self.assert_no_report("end", self.HEAD)
        self.assert_no_report(self.HEAD, event)
        self.assert_no_report(self.HEAD)
        self.assert_no_report(self.HEAD, self.HEAD, "end")
        self.assert_no_report(self.HEAD, "layer 1 main", "end")
        self.assert_no_report(self.HEAD, "end", "end")

    def test_results_are_new_and_arguments_stay(self):
        report = ("shop", 1, 1, ((1, 1, 5, "buy", ("none",)),))
        write_report(report)
        self.assertEqual(report, ("shop", 1, 1, ((1, 1, 5, "buy", ("none",)),)))


class Examples(Messages):
    def test_write_update(self):
        update = ("shop", 1, 0, 1, 1, (), (("layer", 1, "main"), ("text", 5, 1, 0, "hi")))
        text = 'update shop 1 from 0 to 1 outcomes 1\nlayer 1 main\ntext 5 in 1 after 0 "hi"\nend'
        self.assertEqual(write_update(update), text)

    def test_read_report(self):
        report = ("shop", 1, 1, ((1, 1, 5, "buy", ("none",)),))
        self.assertEqual(read_report("events shop 1 version 1\nevent 1 version 1 node 5 buy none\nend"), report)


if __name__ == "__main__":
    unittest.main()
