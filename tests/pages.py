"""What the tests of rendering and of all that stands on it have in common."""

from remoteviews.rendering import render
from remoteviews.templates import parse_template

NONE = ("none",)
TRUE = ("bool", True)
FALSE = ("bool", False)
# A map of eight entries, the keys a to h with 1 to 8.
EIGHT = 'map("a", 1, "b", 2, "c", 3, "d", 4, "e", 5, "f", 6, "g", 7, "h", 8)'


def whole(number):
    return ("int", number)


def words(text):
    return ("text", text)


def entries(**scalars):
    return ("map", tuple(scalars.items()))


def page_text(*lines, shared=(), ahead=(), states=(), layers="main, top"):
    """A text whose root has these lines; ahead are whole lines of the components ahead."""
    rows = ["layers " + layers]
    rows += ["shared " + row for row in shared]
    rows += list(ahead)
    rows.append("component page(me)")
    rows += ["  state " + row for row in states]
    rows += ["  " + line for line in lines]
    return "\n".join(rows)


def page(*lines, **more):
    return parse_template(page_text(*lines, **more))


def drawn(template, client=1, shared=None, resources=None, instances=()):
    return render(template, client, shared or {}, resources or {}, instances)


def contents(told):
    """The words of the nodes, in order; what was told itself if nothing was drawn."""
    return [node[3] for node in told[1]] if told[0] == "drawn" else told


def step(line, key=""):
    return (line, key)
