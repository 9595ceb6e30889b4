"""The errors that the package raises; each tells one kind of refusal."""


class ViewError(ValueError):
    """The base of all errors of the package."""


class BadSigns(ViewError):
    """A line is refused at an offset, counted from 0."""

    def __init__(self, offset):
        self.offset = offset


class BadTemplate(ViewError):
    """A text is no template: at a line, counted from 1, and for a reason."""

    def __init__(self, line, reason):
        self.line = line
        self.reason = reason


class BadExpression(ViewError):
    """No expression begins there."""


class BadMessage(ViewError):
    """A text is no message."""


class BadPatch(ViewError):
    """A patch does not apply."""


class BadEntry(ViewError):
    """A line of a log, counted from 1, is no entry."""

    def __init__(self, line):
        self.line = line


class NotNext(ViewError):
    """An entry of a log cannot follow at its line, counted from 1."""

    def __init__(self, line):
        self.line = line


class BadArgument(ViewError):
    """An argument is refused for a reason."""

    def __init__(self, reason):
        self.reason = reason
