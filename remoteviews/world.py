"""Worlds: a server, its clients, and the texts that are on their way between them."""

from remoteviews.client import View
from remoteviews.messages import read_report
from remoteviews.server import Server, replay

# The receiver of reports on the wire.
SERVER = 0


class World:
    """A server, a view for each client that was connected, and the wire."""

    def __init__(self, name, text):
        self.server = Server(name, text)
        self.views = {}
        self._name = name
        self._wire = []

    def connect(self):
        """Connects a client and makes its view; its number."""
        client = self.server.connect()
        self.views[client] = View(self._name, client)
        return client

    def disconnect(self, client):
        """Ends the session of a client; its view stays."""
        self.server.disconnect(client)

    def update(self, client):
        """Puts an update for a client on the wire."""
        self._wire.append((client, self.server.update(client)))

    def report(self, client):
        """Puts a report of a client's view on the wire."""
        self._wire.append((SERVER, self.views[client].report()))

    def wire(self):
        """The list of what is on its way: pairs (receiver, text)."""
        return list(self._wire)

    def drop(self, place):
        """Loses the text at a place of the wire."""
        del self._wire[place]

    def double(self, place):
        """Puts the text at a place of the wire at its end once more."""
        self._wire.append(self._wire[place])

    def deliver(self, place):
        """Takes the text at a place from the wire, and brings it to its receiver."""
        receiver, text = self._wire.pop(place)
        if receiver != SERVER:
            self.views[receiver].receive(text)
        elif read_report(text)[1] in self.server.clients():
            self.server.receive(text)

    def stop(self, count):
        """Builds the server again from the first lines of its log, but from no less than what is saved."""
        lines = self.server.log()
        self.server = replay(lines[:max(count, self.server.saved(), 1)])
