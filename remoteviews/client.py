"""Clients: they show what updates bring, and report what their users do."""

from remoteviews.errors import BadArgument
from remoteviews.messages import MOST_EVENTS, read_update, write_report
from remoteviews.trees import apply_patch, find
from remoteviews.values import is_name, is_scalar


class View:
    """A client of a server, by the name of the server and its own number."""

    def __init__(self, server, client):
        self._server = server
        self._client = client
        self._tree = ()
        self._version = 0
        self._events = []
        self._outcomes = []

    def receive(self, text):
        """Takes an update: applied, stale or gap."""
        server, client, base, version, first, outcomes, patch = read_update(text)
        if server != self._server or client != self._client:
            raise BadArgument("other")
        answer = self._show(base, version, patch)
        self._learn(first, outcomes)
        return answer

    def queue(self, node, event, scalar):
        """Notes an event of the user at a node that is displayed; its sequence."""
        if find(self._tree, node) is None:
            raise BadArgument("node")
        if not is_name(event):
            raise BadArgument("event")
        if not is_scalar(scalar):
            raise BadArgument("scalar")
        if self.outstanding() == MOST_EVENTS:
            raise BadArgument("open")
        sequence = len(self._events) + 1
        self._events.append((sequence, self._version, node, event, scalar))
        return sequence

    def report(self):
        """The text of a report with all open events."""
        waiting = tuple(self._events[len(self._outcomes):])
        return write_report((self._server, self._client, self._version, waiting))

    def tree(self):
        """The displayed tree."""
        return self._tree

    def version(self):
        """The displayed version."""
        return self._version

    def outcomes(self):
        """The list of the outcomes that are known."""
        return list(self._outcomes)

    def outstanding(self):
        """How many events are open."""
        return len(self._events) - len(self._outcomes)

    def _show(self, base, version, patch):
        if version <= self._version:
            return "stale"
        if base not in (0, self._version):
            return "gap"
        self._tree = apply_patch(() if base == 0 else self._tree, patch)
        self._version = version
        return "applied"

    def _learn(self, first, outcomes):
        """Adds the outcomes behind the known ones, as far as there are such events."""
        start = len(self._outcomes) + 1 - first
        # Otherwise there would be a hole between the known ones and these.
        if start >= 0:
            self._outcomes.extend(outcomes[start:start + self.outstanding()])
