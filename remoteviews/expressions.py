"""Expressions: read from signs, written as signs, and asked for their variables."""

from remoteviews.errors import BadExpression
from remoteviews.signs import COMMA, LEFT, RIGHT, enclosed, is_at, literal, scalar_of
from remoteviews.values import is_value

RESERVED = (
    "none",
    "true",
    "false",
    "map",
    "inject",
    "not",
    "size",
    "reverse",
    "add",
    "sub",
    "lt",
    "eq",
    "and",
    "concat",
    "has",
    "get",
    "remove",
    "take",
    "put",
    "cond",
    "resource",
)
# How many expressions each function takes.
ARITIES = {
    "not": 1,
    "size": 1,
    "reverse": 1,
    "add": 2,
    "sub": 2,
    "lt": 2,
    "eq": 2,
    "and": 2,
    "concat": 2,
    "has": 2,
    "get": 2,
    "remove": 2,
    "take": 2,
    "put": 3,
    "cond": 3,
    "resource": 1,
}
MOST_CALLS = 10
DEEPEST_CALL = 5


def read_expression(signs, at):
    """The expression that begins at an index of a list of signs, and the index behind it."""
    expression, end = _read(signs, at, 1)
    if _count_calls(expression) > MOST_CALLS:
        raise BadExpression()
    return expression, end


def expression_signs(expression):
    """The list of the signs of an expression."""
    kind = expression[0]
    if kind == "literal":
        return literal(expression[1])
    if kind == "variable":
        return [("name", expression[1])]
    rows = [expression_signs(inner) for inner in _inner_ones(expression)]
    if kind == "inject":
        return [("name", "inject")] + enclosed([[("name", expression[1])]] + rows)
    return [("name", expression[1])] + enclosed(rows)


def variables(expression):
    """The list of the variables of an expression, from the left, each as often as it occurs."""
    if expression[0] == "variable":
        return [expression[1]]
    found = []
    for inner in _inner_ones(expression):
        found.extend(variables(inner))
    return found


def _inner_ones(expression):
    """The expressions that stand directly in an expression, from the left."""
    if expression[0] == "call":
        return expression[2]
    if expression[0] == "inject":
        return (expression[2],)
    return ()


def _count_calls(expression):
    own = 1 if expression[0] in ("call", "inject") else 0
    return own + sum([_count_calls(inner) for inner in _inner_ones(expression)])


def _read(signs, at, depth):
    """The expression at an index, a call of which is nested that deep, and the index behind it."""
    kind, content = _sign_at(signs, at)
    scalar = scalar_of((kind, content))
    if scalar is not None:
        return ("literal", scalar), at + 1
    if kind != "name":
        raise BadExpression()
    if content == "map":
        return _read_map(signs, at + 1)
    if content not in RESERVED:
        return ("variable", content), at + 1
    # Looked at ahead of what is inside, so that no row of signs is followed any deeper.
    if depth > DEEPEST_CALL:
        raise BadExpression()
    if content == "inject":
        return _read_inject(signs, at + 1, depth)
    return _read_call(content, signs, at + 1, depth)


def _read_call(function, signs, at, depth):
    arguments = []
    for place in range(ARITIES[function]):
        at = _behind(signs, at, LEFT if place == 0 else COMMA)
        argument, at = _read(signs, at, depth + 1)
        arguments.append(argument)
    return ("call", function, tuple(arguments)), _behind(signs, at, RIGHT)


def _read_inject(signs, at, depth):
    at = _behind(signs, at, LEFT)
    kind, name = _sign_at(signs, at)
    if kind != "name" or name in RESERVED:
        raise BadExpression()
    at = _behind(signs, at + 1, COMMA)
    otherwise, at = _read(signs, at, depth + 1)
    return ("inject", name, otherwise), _behind(signs, at, RIGHT)


def _read_map(signs, at):
    at = _behind(signs, at, LEFT)
    entries = []
    while not is_at(signs, at, RIGHT):
        if entries:
            at = _behind(signs, at, COMMA)
        entry, at = _read_entry(signs, at)
        entries.append(entry)
    value = ("map", tuple(entries))
    if not is_value(value):
        raise BadExpression()
    return ("literal", value), at + 1


def _read_entry(signs, at):
    kind, key = _sign_at(signs, at)
    at = _behind(signs, at + 1, COMMA)
    scalar = scalar_of(_sign_at(signs, at))
    if kind != "quoted" or scalar is None:
        raise BadExpression()
    return (key, scalar), at + 1


def _sign_at(signs, at):
    if at >= len(signs):
        raise BadExpression()
    return signs[at]


def _behind(signs, at, sign):
    """The index behind a sign, which must stand at an index."""
    if not is_at(signs, at, sign):
        raise BadExpression()
    return at + 1
