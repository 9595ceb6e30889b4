"""Updates and reports, written as texts and read from them."""

from remoteviews.errors import BadMessage, BadSigns
from remoteviews.forms import BadForm, read_form, word_of, write_form
from remoteviews.signs import split_line, write_signs

MOST_OUTCOMES = 8
MOST_EVENTS = 8

UPDATE = ("update", "NAME", "NUMBER", "from", "NUMBER", "to", "NUMBER", "outcomes", "NUMBER", "OUTCOMES")
REPORT = ("events", "NAME", "NUMBER", "version", "NUMBER")
EVENT = ("event", "NUMBER", "version", "NUMBER", "node", "NUMBER", "NAME", "SCALAR")
END = ("end",)
OPERATIONS = {
    "layer": ("layer", "NUMBER", "NAME"),
    "remove": ("remove", "NUMBER"),
    "element": ("element", "NUMBER", "in", "NUMBER", "after", "NUMBER", "NAME"),
    "text": ("text", "NUMBER", "in", "NUMBER", "after", "NUMBER", "CONTENT"),
    "move": ("move", "NUMBER", "after", "NUMBER"),
    "attr": ("attr", "NUMBER", "NAME", "SCALAR"),
    "content": ("content", "NUMBER", "CONTENT"),
}


def write_update(update):
    """The text of an update."""
    lines = [_line(UPDATE, update[:6])]
    for operation in update[6]:
        kind, *values = operation
        lines.append(_line(OPERATIONS[kind], values))
    return _text(lines)


def read_update(text):
    """The update of a text."""
    head, rows = _head_and_rows(text)
    operations = tuple([_read_operation(row) for row in rows])
    update = _read(UPDATE, head) + (operations,)
    # Only one text is an update's: so other spaces and the like need no rules of their own.
    if not _is_update(update) or write_update(update) != text:
        raise BadMessage()
    return update


def write_report(report):
    """The text of a report."""
    lines = [_line(REPORT, report[:3])]
    for event in report[3]:
        lines.append(_line(EVENT, event))
    return _text(lines)


def read_report(text):
    """The report of a text."""
    head, rows = _head_and_rows(text)
    events = tuple([_read(EVENT, row) for row in rows])
    report = _read(REPORT, head) + (events,)
    if not _are_events(events) or write_report(report) != text:
        raise BadMessage()
    return report


def _line(form, values):
    return write_signs(write_form(form, values))


def _text(lines):
    return "\n".join(lines + [_line(END, ())])


def _head_and_rows(text):
    """The signs of the first line of a text, and of each line behind it ahead of the end."""
    rows = [_signs_of(line) for line in text.split("\n")]
    _read(END, rows[-1])
    return rows[0], rows[1:-1]


def _signs_of(line):
    try:
        return split_line(line)
    except BadSigns:
        raise BadMessage()


def _read(form, signs):
    try:
        return read_form(form, signs)
    except BadForm:
        raise BadMessage()


def _read_operation(signs):
    kind = word_of(signs)
    if kind not in OPERATIONS:
        raise BadMessage()
    return (kind,) + _read(OPERATIONS[kind], signs)


def _is_update(update):
    """Whether the numbers of an update go together."""
    _, _, base, version, first, outcomes, _ = update
    return base <= version and version >= 1 and first >= 1 and len(outcomes) <= MOST_OUTCOMES


def _are_events(events):
    """Whether there are not too many, each with the sequence behind the one before it."""
    if len(events) > MOST_EVENTS:
        return False
    sequences = [event[0] for event in events]
    if not sequences:
        return True
    return sequences[0] >= 1 and sequences == list(range(sequences[0], sequences[0] + len(sequences)))
