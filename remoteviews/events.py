"""Which element handles an event, and what its handler assigns."""

from remoteviews.bodies import component_at, inner_lines
from remoteviews.evaluation import evaluate, wrong_kind
from remoteviews.identity import node_rows


def handler_at(rows, node, event):
    """The id of the element that handles an event at a node and what it expects, or None."""
    known = {row[0]: row for row in rows}
    while node in known:
        _, around, handlers = known[node]
        for name, expected in handlers:
            if name == event:
                return (node, expected)
        node = around
    return None


def run(template, nodes, ids, at, event, scalar, resources):
    """The assignments of a handler of a drawn node, and of those to which it emits; None if it fails."""
    rows = node_rows(nodes, ids)
    drawn = {node_id: node for node_id, node in zip(ids, nodes)}
    arounds = {node_id: around for node_id, around, _ in rows}
    assignments = []
    while True:
        told = _handled(template, drawn[at], event, scalar, resources)
        if told is None:
            return None
        assignments.extend(told[0])
        if told[1] is None:
            return tuple(assignments)
        event, scalar = told[1]
        # An emitted event goes outwards: the element itself does not get it.
        found = handler_at(rows, arounds[at], event)
        if found is None:
            return None
        at = found[0]


def _handled(template, node, event, scalar, resources):
    """The list of the assignments of one handler, and what it emits, a pair or None; None if it fails."""
    lines = {name: line for name, line, _ in node[5]}
    if event not in lines:
        return None
    _, _, states, body = component_at(template, node[2])
    scope = dict(node[9])
    scope[body[lines[event]][1][2]] = scalar
    assignments = []
    emitted = None
    for inner in inner_lines(body, lines[event]):
        statement = body[inner][1]
        if statement[0] != "expect":
            value = _value(statement, scope, node[10], resources)
            if value is None:
                return None
            if statement[0] == "emit":
                emitted = (statement[1], value)
            else:
                assignments.append(_assignment(node[2], states, statement[1], value))
    return assignments, emitted


def _value(statement, scope, provided, resources):
    """The value of an assignment or of an emitted event, or None if it has no right one."""
    word, _, expression = statement
    result = evaluate(expression, scope, provided, resources)
    if result[0] != "value":
        return None
    kind = "scalar" if word == "emit" else "any"
    return result[1] if wrong_kind(result[1], kind) is None else None


def _assignment(owner, states, name, value):
    is_state = name in [state for state, _ in states]
    return (owner if is_state else "", name, value)
