"""What a server has of one client: instances, drawings by versions, outcomes."""

from remoteviews.events import handler_at
from remoteviews.identity import drawing, keys, numbered, with_ids
from remoteviews.rendering import render

MOST_VERSIONS = 8
FIRST_NODE = 5


class Session:
    """A client as its server has it."""

    def __init__(self, client):
        self.client = client
        self.instances = ()
        self.versions = []
        self.nodes = ()
        self.ids = ()
        self.problem = None
        self.outcomes = []
        self.reported = 0
        self._newest_keys = ()
        self._next_number = 1
        self._next_id = FIRST_NODE

    def draw(self, template, shared, resources):
        """Makes a render with what follows from it."""
        told = render(template, self.client, shared, resources, self.instances)
        if told[0] == "drawn":
            self._take_up(told[1], told[2], told[3])
        else:
            self.nodes = ()
            self.ids = ()
            self.problem = told
        self._newest_keys = keys(self.nodes, self.ids, self.instances)
        self._note(drawing(template[0], self.nodes, self.ids))

    def _take_up(self, nodes, visited, kept):
        self.instances, self._next_number = numbered(visited, kept, self._next_number)
        self.ids, self._next_id = with_ids(nodes, self.instances, self._newest_keys, self._next_id)
        self.nodes = nodes
        self.problem = None

    def _note(self, drawn):
        """Gives a drawing the next version, if it is another one."""
        version, newest = self.newest()
        if drawn != newest:
            self.versions.append((version + 1, drawn))
            self.versions = self.versions[-MOST_VERSIONS:]

    def newest(self):
        """The newest version and its drawing."""
        return self.versions[-1] if self.versions else (0, ((), ()))

    def kept(self, version):
        """The drawing of a version, or None if it is not kept."""
        for known, drawn in self.versions:
            if known == version:
                return drawn
        return None

    def decide(self, event):
        """The outcome of an event of the client, or None if its handler must be run."""
        _, version, node, name, _ = event
        drawn = self.kept(version)
        if drawn is None:
            return "stale"
        seen = handler_at(drawn[1], node, name)
        if seen is None:
            return "unhandled"
        now = self._handler_of(seen[0], name)
        if now is None:
            return "removed"
        return None if now == seen else "conflict"

    def _handler_of(self, node, name):
        """What handler_at gives for the newest drawing, if that element handles the event itself."""
        found = handler_at(self.newest()[1][1], node, name)
        return found if found is not None and found[0] == node else None

    def assign(self, owner, name, value):
        """Gives a state of the instance at a path a value."""
        instances = list(self.instances)
        for at, (path, number, component, states) in enumerate(self.instances):
            if path == owner:
                changed = tuple([(state, value if state == name else held) for state, held in states])
                instances[at] = (path, number, component, changed)
                # Where a path is there twice, the first one is meant.
                break
        self.instances = tuple(instances)
