"""Characters, names, keys, scalars and values."""

# The percent sign as a number: no string of the package contains it.
PERCENT = 37

NAME_LENGTH = 12
KEY_LENGTH = 12
TEXT_LENGTH = 40
MAP_SIZE = 8
GREATEST_INTEGER = 999999


def is_character(char):
    """Whether the texts of values may have this character."""
    return " " <= char <= "~" and ord(char) != PERCENT


def is_digit(char):
    """Whether it is a decimal digit, of ASCII alone."""
    return "0" <= char <= "9"


def is_name(thing):
    """Whether it is a small letter, followed by small letters and digits."""
    if not isinstance(thing, str) or not 1 <= len(thing) <= NAME_LENGTH:
        return False
    return _is_small(thing[0]) and all(_is_small(char) or is_digit(char) for char in thing)


def is_key(thing):
    """Whether it is a string that can be a key of a map."""
    return _is_text(thing, 1, KEY_LENGTH)


def is_scalar(thing):
    """Whether it is a none, a boolean, an integer or a text, with its kind."""
    if thing == ("none",):
        return True
    if not _is_pair(thing):
        return False
    kind, content = thing
    if kind == "bool":
        return isinstance(content, bool)
    if kind == "int":
        return _is_integer(content)
    return kind == "text" and _is_text(content, 0, TEXT_LENGTH)


def is_value(thing):
    """Whether it is a scalar or a map."""
    if is_scalar(thing):
        return True
    return _is_pair(thing) and thing[0] == "map" and _are_entries(thing[1])


def plain(scalar):
    """The plain text of a scalar."""
    if scalar[0] == "none":
        return ""
    if scalar[0] == "bool":
        return "true" if scalar[1] else "false"
    return str(scalar[1])


def _is_small(char):
    return "a" <= char <= "z"


def _is_pair(thing):
    return isinstance(thing, tuple) and len(thing) == 2


def _is_text(thing, shortest, longest):
    if not isinstance(thing, str) or not shortest <= len(thing) <= longest:
        return False
    return all(is_character(char) for char in thing)


def _is_integer(thing):
    # In Python a boolean is an integer, too, but not here.
    if isinstance(thing, bool) or not isinstance(thing, int):
        return False
    return 0 <= thing <= GREATEST_INTEGER


def _are_entries(thing):
    """Whether it can be the entries of a map."""
    if not isinstance(thing, tuple) or len(thing) > MAP_SIZE:
        return False
    if not all(_is_entry(entry) for entry in thing):
        return False
    return len({entry[0] for entry in thing}) == len(thing)


def _is_entry(thing):
    return _is_pair(thing) and is_key(thing[0]) and is_scalar(thing[1])
