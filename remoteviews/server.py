"""Servers: they draw for their clients, decide their events, and write down what they do."""

from remoteviews.deeds import House, written_template
from remoteviews.diffs import diff
from remoteviews.entries import read_entry, write_entry
from remoteviews.errors import BadArgument, BadEntry, NotNext
from remoteviews.events import handler_at
from remoteviews.messages import MOST_OUTCOMES, read_report, write_update
from remoteviews.templates import parse_template
from remoteviews.values import is_name
from remoteviews.writing import template_text


class Server:
    """A server of a template, with its log."""

    def __init__(self, name, text):
        if not is_name(name):
            raise BadArgument("name")
        template = parse_template(text)
        self._name = name
        self._house = House(template)
        self._log = [write_entry(("start", name, template_text(template)))]
        self._saved = 0

    def connect(self):
        """Connects a client; its number."""
        self.follow(("connect",))
        self.save()
        return self._house.last_client

    def disconnect(self, client):
        """Ends the session of a client."""
        self.follow(("disconnect", client))

    def dispatch(self, client, node, event, scalar):
        """Brings an event to a node by hand: applied, failed or unhandled."""
        session = self._house.session(client)
        handler = handler_at(session.newest()[1][1], node, event)
        if handler is None:
            return "unhandled"
        return self._outcome_of(("event", client, 0, handler[0], event, scalar))

    def resolve(self, resource, value):
        """Brings the value of a resource."""
        self.follow(("resolve", resource, value))

    def replace(self, text):
        """Puts another template in the place of the one that there is."""
        self.follow(("replace", template_text(parse_template(text))))

    def receive(self, text):
        """Takes a report; the list of the outcomes that were noted."""
        name, client, displayed, events = read_report(text)
        if name != self._name:
            raise BadArgument("server")
        session = self._house.session(client)
        session.reported = max(session.reported, displayed)
        noted = []
        for event in events:
            if event[0] == len(session.outcomes) + 1:
                noted.append(self._decided(session, event))
        return noted

    def update(self, client):
        """The text of an update for a client."""
        session = self._house.session(client)
        version, (tree, _) = session.newest()
        base = 0 if session.kept(session.reported) is None else session.reported
        before = () if base == 0 else session.kept(base)[0]
        outcomes = tuple(session.outcomes[-MOST_OUTCOMES:])
        first = len(session.outcomes) - len(outcomes) + 1
        # What goes out must not be lost.
        self.save()
        return write_update((self._name, client, base, version, first, outcomes, diff(before, tree)))

    def session(self, client):
        """The newest version, the kept versions, the problem and the newest tree of a client."""
        session = self._house.session(client)
        version, (tree, _) = session.newest()
        return (version, tuple([kept for kept, _ in session.versions]), session.problem, tree)

    def outcomes(self, client):
        """The list of all outcomes of a client's events."""
        return list(self._house.session(client).outcomes)

    def shared(self):
        """The shared values by their names."""
        return dict(self._house.variables)

    def log(self):
        """The list of the lines of the log."""
        return list(self._log)

    def saved(self):
        """How many lines of the log are saved."""
        return self._saved

    def clients(self):
        """The list of the connected clients."""
        return list(self._house.sessions)

    def follow(self, entry):
        """Does what an entry tells and puts it into the log; BadArgument if it cannot follow."""
        self._house.follow(entry)
        self._log.append(write_entry(entry))

    def save(self):
        """Saves all of the log."""
        self._saved = len(self._log)

    def _decided(self, session, event):
        """The outcome of the next event of a client, which is noted."""
        sequence, version, node, name, scalar = event
        outcome = session.decide(event)
        if outcome is None:
            # The version is kept and has a handler: otherwise it would be decided.
            handler = handler_at(session.kept(version)[1], node, name)
            outcome = self._outcome_of(("event", session.client, sequence, handler[0], name, scalar))
        if outcome != "applied":
            self.follow(("discard", session.client, sequence, outcome))
        return outcome

    def _outcome_of(self, entry):
        """Runs the handler of an event: applied, or failed."""
        try:
            self.follow(entry)
        except BadArgument:
            return "failed"
        return "applied"


def replay(lines):
    """The server that has these lines as its log."""
    if not lines:
        raise NotNext(1)
    server = _begun(lines[0])
    for number, line in enumerate(lines[1:], start=2):
        entry = _entry_at(line, number)
        try:
            server.follow(entry)
        except BadArgument:
            raise NotNext(number)
    server.save()
    return server


def _begun(line):
    """The server whose log begins with a line."""
    entry = _entry_at(line, 1)
    if entry[0] != "start":
        raise NotNext(1)
    try:
        written_template(entry[2])
    except BadArgument:
        raise NotNext(1)
    return Server(entry[1], entry[2])


def _entry_at(line, number):
    entry = read_entry(line)
    if entry is None:
        raise BadEntry(number)
    return entry
