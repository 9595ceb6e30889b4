"""Whole runs, drawn by fixed seeds: what the document promises for every template and every schedule."""

import copy
import random
import unittest

from lots import Run, some_text
from remoteviews.errors import BadTemplate
from remoteviews.server import replay
from remoteviews.templates import parse_template
from remoteviews.trees import ids
from remoteviews.writing import template_text

RUNS = 40
STEPS = 150
LONGEST_LOG = 250


def seen(server):
    """All that a server tells, but what is saved and what goes out."""
    clients = server.clients()
    return ({client: server.session(client) for client in clients},
            {client: server.outcomes(client) for client in clients}, server.shared(), server.log(), clients)


def decided(log, client):
    """The sequences and outcomes of the events of a client, as they stand in a log."""
    found = []
    for line in log:
        word, *more = line.split(" ", 4)
        if word == "event" and more[0] == str(client) and more[1] != "0":
            found.append((int(more[1]), "applied"))
        elif word == "discard" and more[0] == str(client):
            found.append((int(more[1]), more[2]))
    return found


class Watch:
    """What was seen of a run, behind each of its steps."""

    def __init__(self, case, run):
        self.case = case
        self.run = run
        # What the server told, by the lengths of the beginnings of its log.
        self.beginnings = {}
        self.displayed = {}
        self.outcomes = {}

    def look(self):
        server = self.run.world.server
        log = server.log()
        self.beginnings = {count: told for count, told in self.beginnings.items() if count <= len(log)}
        told = seen(server)
        # A server that was built again is as it was.
        self.case.assertEqual(self.beginnings.setdefault(len(log), told), told)
        for client, view in self.run.world.views.items():
            self.look_at_view(client, view, log)

    def look_at_view(self, client, view, log):
        case = self.case
        before = self.displayed.get(client, 0)
        case.assertGreaterEqual(view.version(), before)
        self.displayed[client] = view.version()
        if view.version() == 0:
            case.assertEqual(view.tree(), ())
        else:
            case.assertIn((view.version(), view.tree()), self.trees(client))
        known = view.outcomes()
        earlier = self.outcomes.get(client, [])
        case.assertEqual(known[:len(earlier)], earlier)
        self.outcomes[client] = known
        noted = decided(log, client)
        case.assertEqual([sequence for sequence, _ in noted], list(range(1, len(noted) + 1)))
        case.assertEqual(known, [outcome for _, outcome in noted][:len(known)])
        server = self.run.world.server
        if client in server.clients():
            case.assertEqual(server.outcomes(client), [outcome for _, outcome in noted])

    def trees(self, client):
        """The trees of a client with their versions, as the beginnings of the log give them."""
        told = [sessions[client] for sessions, _, _, _, _ in self.beginnings.values() if client in sessions]
        return [(session[0], session[3]) for session in told]


class Runs(unittest.TestCase):
    def test_templates_are_templates(self):
        rng = random.Random(1)
        for _ in range(300):
            text = some_text(rng)
            try:
                template = parse_template(text)
            except BadTemplate as refusal:
                self.fail(f"{refusal.line}: {refusal.reason}\n{text}")
            self.assertEqual(parse_template(template_text(template)), template)

    def test_runs(self):
        for seed in range(RUNS):
            run = Run(random.Random(seed))
            watch = Watch(self, run)
            with self.subTest(seed=seed):
                watch.look()
                for _ in range(STEPS):
                    if len(run.world.server.log()) < LONGEST_LOG:
                        run.step()
                        watch.look()
                self.each_beginning(watch)
                self.undisturbed_rounds(watch)

    def each_beginning(self, watch):
        log = watch.run.world.server.log()
        for count in list(watch.beginnings)[::7]:
            server = replay(log[:count])
            self.assertEqual(seen(server), watch.beginnings[count])
            self.assertEqual(server.saved(), count)

    def undisturbed_rounds(self, watch):
        run = watch.run
        server = run.world.server
        for client in server.clients():
            view = run.world.views[client]
            open_ones = view.outstanding()
            queued = len(view.outcomes()) + open_ones
            server.receive(view.report())
            view.receive(server.update(client))
            self.assertEqual((view.version(), view.tree()), (server.session(client)[0], server.session(client)[3]))
            self.assertEqual((view.outstanding(), view.outcomes()), (0, server.outcomes(client)))
            self.assertEqual(len(view.outcomes()), queued)
            watch.look()

    def test_undisturbed_rounds_at_any_time(self):
        for seed in range(RUNS, RUNS + 20):
            rng = random.Random(seed)
            run = Run(rng)
            watch = Watch(self, run)
            with self.subTest(seed=seed):
                for _ in range(60):
                    for _ in range(rng.randint(1, 6)):
                        if len(run.world.server.log()) < LONGEST_LOG:
                            run.step()
                            watch.look()
                    self.undisturbed_rounds(watch)

    def test_trees(self):
        """c8: the ids of layers and of others, parents ahead of their children, attributes in order."""
        for seed in range(20):
            run = Run(random.Random(1000 + seed))
            for _ in range(STEPS):
                if len(run.world.server.log()) < LONGEST_LOG:
                    run.step()
                for client in run.world.server.clients():
                    self.look_at_tree(run.world.server.session(client)[3])

    def look_at_tree(self, tree):
        self.assertEqual([layer[:3] for layer in tree], [("layer", 1, "main"), ("layer", 2, "top")])
        found = ids(tree)
        self.assertEqual(len(found), len(set(found)))
        waiting = [(0, layer) for layer in tree]
        while waiting:
            parent, node = waiting.pop()
            self.assertGreater(node[1], parent)
            self.assertEqual(node[1] >= 5, node[0] != "layer")
            if node[0] == "element":
                self.assertEqual([name for name, _ in node[3]], sorted({name for name, _ in node[3]}))
                self.assertNotIn(("none",), [scalar for _, scalar in node[3]])
            if node[0] != "text":
                waiting += [(node[1], child) for child in node[-1]]


class Reach(unittest.TestCase):
    """That the runs come to all that can happen: otherwise they would tell nothing."""

    def test_what_happens(self):
        outcomes = {}
        problems = {}
        answers = {}
        for seed in range(RUNS):
            run = Run(random.Random(seed))
            for _ in range(STEPS):
                waiting = run.world.wire()
                if waiting and waiting[0][0] != 0:
                    # Asked of a view of its own, which takes all that its client took.
                    answers[self.answer(run, *waiting[0])] = True
                run.step()
                for client in run.world.server.clients():
                    problem = run.world.server.session(client)[2]
                    problems["drawn" if problem is None else problem[0]] = True
            for client in run.world.server.clients():
                for outcome in run.world.server.outcomes(client):
                    outcomes[outcome] = outcomes.get(outcome, 0) + 1
        self.assertEqual(sorted(outcomes), ["applied", "conflict", "failed", "removed", "stale", "unhandled"])
        self.assertGreater(min(outcomes.values()), 3)
        self.assertEqual(sorted(problems), ["drawn", "error", "waits"])
        self.assertEqual(sorted(answers), ["applied", "gap", "stale"])

    def answer(self, run, client, text):
        """What the view of a client answers to an update that comes next."""
        return copy.deepcopy(run.world.views[client]).receive(text)


if __name__ == "__main__":
    unittest.main()
