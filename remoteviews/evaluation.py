"""What expressions give: a value, an error, or the resource for which they wait."""

from remoteviews.values import GREATEST_INTEGER, MAP_SIZE, TEXT_LENGTH, is_key, plain

# The kinds of the arguments of the functions that evaluate all of them ahead of all else.
KINDS = {
    "not": ("boolean",),
    "size": ("map",),
    "reverse": ("map",),
    "add": ("integer", "integer"),
    "sub": ("integer", "integer"),
    "lt": ("integer", "integer"),
    "eq": ("any", "any"),
    "concat": ("scalar", "scalar"),
    "has": ("map", "key"),
    "get": ("map", "key"),
    "remove": ("map", "key"),
    "take": ("map", "integer"),
    "put": ("map", "key", "scalar"),
}
WRONG_KINDS = {
    "integer": "not an integer",
    "boolean": "not a boolean",
    "scalar": "not a scalar",
    "map": "not a map",
    "key": "not a key",
}


def evaluate(expression, scope, provided, resources):
    """The result of an expression."""
    around = (scope, provided, resources)
    kind = expression[0]
    if kind == "literal":
        return ("value", expression[1])
    if kind == "variable":
        return _value_in(scope, expression[1])
    if kind == "inject":
        return _injected(expression[1], expression[2], around)
    return _called(expression[1], expression[2], around)


def wrong_kind(value, kind):
    """The message of the error if a value is not of a kind, otherwise None."""
    return None if _is_of_kind(value, kind) else WRONG_KINDS[kind]


def _is_of_kind(value, kind):
    if kind == "integer":
        return value[0] == "int"
    if kind == "boolean":
        return value[0] == "bool"
    if kind == "scalar":
        return value[0] != "map"
    if kind == "map":
        return value[0] == "map"
    if kind == "key":
        return value[0] == "text" and is_key(value[1])
    return True


def _value_in(scope, name):
    if name not in scope:
        return ("error", "undefined name")
    return ("value", scope[name])


def _injected(name, otherwise, around):
    _, provided, _ = around
    for known, value in provided:
        if known == name:
            return ("value", value)
    return evaluate(otherwise, *around)


def _called(function, arguments, around):
    if function == "and":
        return _both(arguments[0], arguments[1], around)
    if function == "cond":
        return _chosen(arguments, around)
    values = []
    for argument in arguments:
        result = evaluate(argument, *around)
        if result[0] != "value":
            return result
        values.append(result[1])
    if function == "resource":
        return _resource(values[0], around[2])
    return _applied(function, values)


def _applied(function, values):
    """The result of a function, once its arguments have given values."""
    for value, kind in zip(values, KINDS[function]):
        message = wrong_kind(value, kind)
        if message is not None:
            return ("error", message)
    action = ACTIONS[function]
    return action(*values)


def _both(one, other, around):
    result = _boolean_of(one, around)
    if result != ("value", ("bool", True)):
        return result
    return _boolean_of(other, around)


def _chosen(arguments, around):
    result = _boolean_of(arguments[0], around)
    if result[0] != "value":
        return result
    chosen = arguments[1] if result[1] == ("bool", True) else arguments[2]
    return evaluate(chosen, *around)


def _boolean_of(expression, around):
    """The result of an expression that must be a boolean."""
    result = evaluate(expression, *around)
    if result[0] != "value":
        return result
    message = wrong_kind(result[1], "boolean")
    return result if message is None else ("error", message)


def _resource(name, resources):
    if name[0] != "text" or name[1] == "":
        return ("error", "invalid resource name")
    if name[1] not in resources:
        return ("waits", name[1])
    return ("value", resources[name[1]])


def _boolean(truth):
    return ("value", ("bool", truth))


def _integer(number):
    return ("value", ("int", number))


def _map_value(entries):
    return ("value", ("map", tuple(entries)))


def _negated(boolean):
    return _boolean(not boolean[1])


def _size(whole):
    return _integer(len(whole[1]))


def _reversed_map(whole):
    return _map_value(whole[1][::-1])


def _sum_of(one, other):
    total = one[1] + other[1]
    if total > GREATEST_INTEGER:
        return ("error", "integer overflow")
    return _integer(total)


def _difference(one, other):
    if one[1] < other[1]:
        return ("error", "integer underflow")
    return _integer(one[1] - other[1])


def _is_less(one, other):
    return _boolean(one[1] < other[1])


def _is_same(one, other):
    return _boolean(one == other)


def _joined(one, other):
    text = plain(one) + plain(other)
    if len(text) > TEXT_LENGTH:
        return ("error", "text too long")
    return ("value", ("text", text))


def _has(whole, key):
    return _boolean(key[1] in dict(whole[1]))


def _scalar_at(whole, key):
    scalars = dict(whole[1])
    if key[1] not in scalars:
        return ("error", "no such key")
    return ("value", scalars[key[1]])


def _without(whole, key):
    return _map_value([entry for entry in whole[1] if entry[0] != key[1]])


def _first_entries(whole, number):
    return _map_value(whole[1][:number[1]])


def _with_entry(whole, key, scalar):
    # A dict keeps the place of a key that it has, and puts a new one at the end.
    scalars = dict(whole[1])
    scalars[key[1]] = scalar
    if len(scalars) > MAP_SIZE:
        return ("error", "too many entries")
    return _map_value(list(scalars.items()))


ACTIONS = {
    "not": _negated,
    "size": _size,
    "reverse": _reversed_map,
    "add": _sum_of,
    "sub": _difference,
    "lt": _is_less,
    "eq": _is_same,
    "concat": _joined,
    "has": _has,
    "get": _scalar_at,
    "remove": _without,
    "take": _first_entries,
    "put": _with_entry,
}
