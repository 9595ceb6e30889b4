"""What a server has beside its log, and how each entry of the log changes it."""

from remoteviews.errors import BadArgument, BadTemplate
from remoteviews.evaluation import evaluate
from remoteviews.events import handler_at, run
from remoteviews.sessions import Session
from remoteviews.templates import parse_template
from remoteviews.values import is_scalar
from remoteviews.writing import template_text

MOST_CLIENTS = 4


class House:
    """A template with its variables and resources, and the sessions of the connected clients."""

    def __init__(self, template):
        self.template = template
        self.variables = _first_values(template)
        self.resources = {}
        # By the numbers of the clients, in the order of connecting.
        self.sessions = {}
        self.last_client = 0

    def session(self, client):
        """The session of a client, which must be connected."""
        if client not in self.sessions:
            raise BadArgument("client")
        return self.sessions[client]

    def follow(self, entry):
        """Does what an entry tells; one that cannot follow is refused, and changes nothing."""
        kind, *told = entry
        if kind not in ACTIONS:
            raise BadArgument("start")
        action = ACTIONS[kind]
        action(self, *told)
        # Outcomes are not drawn.
        if kind != "discard":
            self._draw_all()

    def _draw_all(self):
        for session in list(self.sessions.values()):
            session.draw(self.template, self.variables, self.resources)


def written_template(text):
    """The template of a text, which must be its written form."""
    try:
        template = parse_template(text)
    except BadTemplate:
        raise BadArgument("text")
    if template_text(template) != text:
        raise BadArgument("text")
    return template


def _first_values(template):
    """The first values of the shared variables, each evaluated with those ahead."""
    found = {}
    for name, expression in template[1]:
        found[name] = evaluate(expression, found, (), {})[1]
    return found


def _connect(house):
    if len(house.sessions) == MOST_CLIENTS:
        raise BadArgument("clients")
    house.last_client += 1
    house.sessions[house.last_client] = Session(house.last_client)


def _disconnect(house, client):
    house.session(client)
    del house.sessions[client]


def _run_event(house, client, sequence, node, event, scalar):
    session = house.session(client)
    if sequence != 0:
        _need_next(session, sequence)
    assignments = _assignments(house, session, node, event, scalar)
    for owner, name, value in assignments:
        if owner == "":
            house.variables[name] = value
        else:
            session.assign(owner, name, value)
    if sequence != 0:
        session.outcomes.append("applied")


def _need_next(session, sequence):
    """Refuses a sequence that is not the one behind the outcomes."""
    if sequence != len(session.outcomes) + 1:
        raise BadArgument("sequence")


def _assignments(house, session, node, event, scalar):
    """What an event assigns that exactly this element must handle."""
    found = handler_at(session.newest()[1][1], node, event)
    if found is None or found[0] != node:
        raise BadArgument("event")
    told = run(house.template, session.nodes, session.ids, node, event, scalar, house.resources)
    if told is None:
        raise BadArgument("event")
    return told


def _discard(house, client, sequence, outcome):
    session = house.session(client)
    _need_next(session, sequence)
    if outcome == "applied":
        raise BadArgument("outcome")
    session.outcomes.append(outcome)


def _resolve(house, resource, value):
    if resource == "" or not is_scalar(("text", resource)):
        raise BadArgument("resource")
    house.resources[resource] = value


def _replace(house, text):
    template = written_template(text)
    if template[0] != house.template[0]:
        raise BadArgument("layers")
    # All first values come first: those behind are made with the first values of those ahead.
    variables = _first_values(template)
    for name in list(variables):
        if name in house.variables:
            variables[name] = house.variables[name]
    house.template = template
    house.variables = variables


ACTIONS = {
    "connect": _connect,
    "disconnect": _disconnect,
    "event": _run_event,
    "discard": _discard,
    "resolve": _resolve,
    "replace": _replace,
}
