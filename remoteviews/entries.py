"""The entries of a log, written as lines and read from them."""

from remoteviews.errors import BadSigns
from remoteviews.forms import BadForm, read_form, word_of, write_form
from remoteviews.signs import split_line, write_signs

FORMS = {
    "start": ("start", "NAME", "QUOTED"),
    "connect": ("connect",),
    "disconnect": ("disconnect", "NUMBER"),
    "event": ("event", "NUMBER", "NUMBER", "NUMBER", "NAME", "SCALAR"),
    "discard": ("discard", "NUMBER", "NUMBER", "OUTCOME"),
    "resolve": ("resolve", "QUOTED", "VALUE"),
    "replace": ("replace", "QUOTED"),
}


def write_entry(entry):
    """The line of an entry."""
    return write_signs(write_form(FORMS[entry[0]], entry[1:]))


def read_entry(line):
    """The entry of a line, or None if it is none in its written form."""
    entry = _entry_of(line)
    # Only one line is an entry's: so other spaces and the like need no rules of their own.
    if entry is None or write_entry(entry) != line:
        return None
    return entry


def _entry_of(line):
    """The entry of a line with whatever spaces, or None."""
    try:
        signs = split_line(line)
        kind = word_of(signs)
        return (kind,) + read_form(FORMS[kind], signs) if kind in FORMS else None
    except (BadSigns, BadForm):
        return None
