"""Lines as lists of signs: how they are read and written, and literals."""

from remoteviews.errors import BadSigns
from remoteviews.values import is_character, is_digit, is_name, is_scalar, plain

MARKS = ("(", ")", ",", "=")
QUOTE = '"'
BACKSLASH = "\\"
ESCAPES = {'\\"': '"', "\\\\": "\\", "\\n": "\n"}
NUMBER_LENGTH = 9

LEFT = ("mark", "(")
RIGHT = ("mark", ")")
COMMA = ("mark", ",")


def split_line(line):
    """The list of the signs of a line."""
    signs = []
    at = 0
    while at < len(line):
        if line[at] == " ":
            at += 1
        else:
            sign, at = _read_sign(line, at)
            signs.append(sign)
    return signs


def write_signs(signs):
    """The text of a list of signs."""
    parts = []
    for place, sign in enumerate(signs):
        if place > 0 and _is_space_between(signs[place - 1], sign):
            parts.append(" ")
        parts.append(_sign_text(sign))
    return "".join(parts)


def literal(value):
    """The list of the signs of a literal."""
    if value[0] == "map":
        return _map_signs(value[1])
    return [_scalar_sign(value)]


def scalar_of(sign):
    """The scalar that has this sign as its literal, or None."""
    kind, content = sign
    if kind == "quoted":
        return _if_scalar(("text", content))
    if kind == "number":
        return _if_scalar(("int", content))
    if sign == ("name", "none"):
        return ("none",)
    if sign in (("name", "true"), ("name", "false")):
        return ("bool", content == "true")
    return None


def is_at(signs, at, sign):
    """Whether a sign stands at an index of a list of signs."""
    return at < len(signs) and signs[at] == sign


def separated(rows):
    """The list of the signs of several rows, with commas between them."""
    signs = []
    for place, row in enumerate(rows):
        if place > 0:
            signs.append(COMMA)
        signs.extend(row)
    return signs


def enclosed(rows):
    """The list of the signs of several rows, with commas between them, in parentheses."""
    return [LEFT] + separated(rows) + [RIGHT]


def _read_sign(line, start):
    """The sign that begins at an index, and the index behind it."""
    char = line[start]
    if char in MARKS:
        return ("mark", char), start + 1
    if char == QUOTE:
        return _read_quoted(line, start)
    if _is_of_run(char):
        return _read_run(line, start)
    raise BadSigns(start)


def _is_of_run(char):
    return "a" <= char <= "z" or "A" <= char <= "Z" or is_digit(char)


def _read_run(line, start):
    end = start
    while end < len(line) and _is_of_run(line[end]):
        end += 1
    run = line[start:end]
    if is_name(run):
        return ("name", run), end
    if _is_number(run):
        return ("number", int(run)), end
    raise BadSigns(start)


def _is_number(run):
    if len(run) > NUMBER_LENGTH or not all(is_digit(char) for char in run):
        return False
    return run == "0" or run[0] != "0"


def _read_quoted(line, start):
    parts = []
    at = start + 1
    while at < len(line) and line[at] != QUOTE:
        width = 2 if line[at] == BACKSLASH else 1
        parts.append(_meant(line[at:at + width], start))
        at += width
    if at == len(line):
        raise BadSigns(start)
    return ("quoted", "".join(parts)), at + 1


def _meant(piece, start):
    """What an escape or a character means in the quoted text that begins at start."""
    if piece in ESCAPES:
        return ESCAPES[piece]
    if piece[0] == BACKSLASH or not is_character(piece):
        raise BadSigns(start)
    return piece


def _is_space_between(sign, following):
    return sign != LEFT and following not in (LEFT, RIGHT, COMMA)


def _sign_text(sign):
    if sign[0] == "quoted":
        return QUOTE + _escaped(sign[1]) + QUOTE
    return str(sign[1])


def _escaped(text):
    # Backslashes go first: the other two escapes bring new ones.
    return text.replace("\\", "\\\\").replace('"', '\\"').replace("\n", "\\n")


def _map_signs(entries):
    rows = []
    for key, scalar in entries:
        rows.append([("quoted", key)])
        rows.append([_scalar_sign(scalar)])
    return [("name", "map")] + enclosed(rows)


def _scalar_sign(scalar):
    if scalar[0] == "text":
        return ("quoted", scalar[1])
    if scalar[0] == "int":
        return ("number", scalar[1])
    if scalar[0] == "none":
        return ("name", "none")
    return ("name", plain(scalar))


def _if_scalar(thing):
    return thing if is_scalar(thing) else None
