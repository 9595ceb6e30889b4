"""The statements of templates: read from the signs of a line, and written as such signs."""

from remoteviews.forms import BadForm, read_form, write_form

# What stands behind the first word of a line.
FORMS = {
    "layers": ("NAMES",),
    "shared": ("NAME", "=", "EXPRESSION"),
    "component": ("NAME", "PARAMETERS"),
    "state": ("NAME", "=", "EXPRESSION"),
    "text": ("EXPRESSION",),
    "element": ("NAME",),
    "attr": ("NAME", "=", "EXPRESSION"),
    "on": ("NAME", "(", "NAME", ")"),
    "expect": ("EXPRESSION",),
    "set": ("NAME", "=", "EXPRESSION"),
    "emit": ("NAME", "(", "EXPRESSION", ")"),
    "if": ("EXPRESSION",),
    "else": (),
    "for": ("NAME", "NAME", "in", "EXPRESSION", "offset", "EXPRESSION", "limit", "EXPRESSION"),
    "use": ("NAME", "ARGUMENTS"),
    "provide": ("NAME", "=", "EXPRESSION"),
    "try": (),
    "catch": ("NAME",),
    "suspense": (),
    "fallback": (),
    "portal": ("NAME",),
}
WHOLE_FOR = ("NAME", "NAME", "in", "EXPRESSION")


def read_statement(word, signs):
    """The statement of a first word and the signs behind it; BadForm if they have not its form."""
    if word == "for":
        return (word,) + _read_for(signs)
    return (word,) + read_form(FORMS[word], signs)


def statement_signs(statement):
    """The list of the signs of a statement, its first word included."""
    word, *values = statement
    form = WHOLE_FOR if _is_whole_for(statement) else FORMS[word]
    return [("name", word)] + write_form(form, values)


def expressions_of(statement):
    """The list of the expressions of a statement, from the left."""
    word = statement[0]
    if word == "use":
        return list(statement[2])
    if word == "for":
        return [part for part in statement[3:] if part is not None]
    if "EXPRESSION" in FORMS[word]:
        return [statement[-1]]
    return []


def _read_for(signs):
    # Both forms are tried: a variable can be called offset, so the word does not tell which it is.
    try:
        return read_form(WHOLE_FOR, signs) + (None, None)
    except BadForm:
        return read_form(FORMS["for"], signs)


def _is_whole_for(statement):
    return statement[0] == "for" and statement[4] is None
