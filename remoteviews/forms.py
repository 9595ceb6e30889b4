"""Forms of lines: one form serves the reading of its lines and their writing.

A form is a tuple of parts. A part in capitals stands for a value of that kind, any other part
for itself, as a word or a mark.
"""

from remoteviews.errors import BadExpression, ViewError
from remoteviews.expressions import expression_signs, read_expression
from remoteviews.signs import COMMA, LEFT, MARKS, RIGHT, enclosed, is_at, literal, scalar_of, separated
from remoteviews.values import is_scalar

OUTCOMES = ("applied", "failed", "unhandled", "stale", "removed", "conflict")

# The kinds of the signs of those parts that are one sign and its content.
SIGN_KINDS = {"NAME": "name", "NUMBER": "number", "CONTENT": "quoted", "QUOTED": "quoted", "OUTCOME": "name"}


class BadForm(ViewError):
    """The signs of a line have not the form."""


def word_of(signs):
    """The name that stands first, or the empty text if there is none."""
    if not signs or signs[0][0] != "name":
        return ""
    return signs[0][1]


def read_form(form, signs):
    """The tuple of the values that signs of a form have, from the left."""
    values = []
    at = 0
    for part in form:
        if part.isupper():
            value, at = _read_value(part, signs, at)
            values.append(value)
        else:
            at = _behind(signs, at, _sign_of(part))
    if at < len(signs):
        raise BadForm()
    return tuple(values)


def write_form(form, values):
    """The list of the signs of a form with its values."""
    signs = []
    left = list(values)
    for part in form:
        if part.isupper():
            signs.extend(_value_signs(part, left.pop(0)))
        else:
            signs.append(_sign_of(part))
    return signs


def _sign_of(part):
    """The sign of a part that stands for itself."""
    return ("mark", part) if part in MARKS else ("name", part)


def _behind(signs, at, sign):
    """The index behind a sign, which must stand at an index."""
    if not is_at(signs, at, sign):
        raise BadForm()
    return at + 1


def _read_value(part, signs, at):
    """The value of a part that begins at an index, and the index behind it."""
    if part == "EXPRESSION":
        return _read_expression(signs, at)
    if part == "VALUE":
        return _read_literal(signs, at)
    if part == "NAMES":
        return _read_separated("NAME", signs, at)
    if part == "PARAMETERS":
        return _read_enclosed("NAME", signs, at)
    if part == "ARGUMENTS":
        return _read_enclosed("EXPRESSION", signs, at)
    if part == "OUTCOMES":
        return tuple([_value_of("OUTCOME", sign) for sign in signs[at:]]), len(signs)
    if at >= len(signs):
        raise BadForm()
    return _value_of(part, signs[at]), at + 1


def _read_expression(signs, at):
    try:
        return read_expression(signs, at)
    except BadExpression:
        raise BadForm()


def _read_literal(signs, at):
    expression, end = _read_expression(signs, at)
    if expression[0] != "literal":
        raise BadForm()
    return expression[1], end


def _read_separated(part, signs, at):
    value, at = _read_value(part, signs, at)
    values = [value]
    while is_at(signs, at, COMMA):
        value, at = _read_value(part, signs, at + 1)
        values.append(value)
    return tuple(values), at


def _read_enclosed(part, signs, at):
    at = _behind(signs, at, LEFT)
    if is_at(signs, at, RIGHT):
        return (), at + 1
    values, at = _read_separated(part, signs, at)
    return values, _behind(signs, at, RIGHT)


def _value_of(part, sign):
    """The value of a part that is one sign."""
    if part == "SCALAR":
        return _scalar_of(sign)
    kind, content = sign
    if kind != SIGN_KINDS[part] or not _is_right(part, content):
        raise BadForm()
    return content


def _scalar_of(sign):
    scalar = scalar_of(sign)
    if scalar is None:
        raise BadForm()
    return scalar


def _is_right(part, content):
    if part == "CONTENT":
        return is_scalar(("text", content))
    if part == "OUTCOME":
        return content in OUTCOMES
    return True


def _value_signs(part, value):
    """The list of the signs of the value of a part."""
    if part == "EXPRESSION":
        return expression_signs(value)
    if part in ("SCALAR", "VALUE"):
        return literal(value)
    if part == "NAMES":
        return separated([_value_signs("NAME", name) for name in value])
    if part == "PARAMETERS":
        return enclosed([_value_signs("NAME", name) for name in value])
    if part == "ARGUMENTS":
        return enclosed([expression_signs(argument) for argument in value])
    if part == "OUTCOMES":
        return [("name", outcome) for outcome in value]
    return [(SIGN_KINDS[part], value)]
