"""Templates, read from their texts."""

from remoteviews.drafts import Draft
from remoteviews.errors import BadSigns, BadTemplate
from remoteviews.forms import BadForm, word_of
from remoteviews.signs import split_line
from remoteviews.statements import FORMS, read_statement

MOST_LINES = 40
# The lines that are not part of a body.
HEADS = ("layers", "shared", "component", "state")


def parse_template(text):
    """The template of a text."""
    lines = text.split("\n")
    if len(lines) > MOST_LINES:
        raise BadTemplate(MOST_LINES + 1, "too many lines")
    rows = [_read_row(line, number) for number, line in enumerate(lines, start=1)]
    _look_at_order(rows)
    return _grown(rows)


def _read_row(line, number):
    """The level and the statement of a line."""
    signs = _signs_of(line, number)
    if not signs:
        raise BadTemplate(number, "empty line")
    word = word_of(signs)
    if word not in FORMS:
        raise BadTemplate(number, "unknown statement")
    try:
        statement = read_statement(word, signs[1:])
    except BadForm:
        raise BadTemplate(number, f"{word} statement is malformed")
    spaces = len(line) - len(line.lstrip(" "))
    if spaces % 2 == 1:
        raise BadTemplate(number, "indentation must be a multiple of 2 spaces")
    return spaces // 2, statement


def _signs_of(line, number):
    try:
        return split_line(line)
    except BadSigns as refusal:
        raise BadTemplate(number, f"unexpected character at {refusal.offset}")


def _look_at_order(rows):
    """Refuses the first line that stands in a part of the text where such lines do not."""
    stage = "beginning"
    for number, (level, statement) in enumerate(rows, start=1):
        stage = _stage_with(stage, statement[0], level)
        if stage == "":
            raise BadTemplate(number, "not allowed here")


def _stage_with(stage, word, level):
    """In which part of the text a line stands, behind one in a part; the empty text if in none."""
    if stage == "beginning":
        return "shared" if word == "layers" and level == 0 else ""
    if word == "component" and level == 0:
        return "states"
    if stage == "shared":
        return "shared" if word == "shared" and level == 0 else ""
    if word == "state" and level == 1 and stage == "states":
        return "states"
    return "body" if word not in HEADS and level > 0 else ""


def _grown(rows):
    """The template of rows that stand in order."""
    component_count = len([level for level, statement in rows if statement[0] == "component"])
    draft = Draft(component_count)
    for number, (level, statement) in enumerate(rows, start=1):
        reason = draft.grow(level, statement)
        if reason is not None:
            raise BadTemplate(number, reason)
    if component_count == 0:
        raise BadTemplate(len(rows), "component expected after this line")
    return draft.told()
