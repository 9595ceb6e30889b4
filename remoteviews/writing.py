"""The written form of templates."""

from remoteviews.signs import write_signs
from remoteviews.statements import statement_signs


def template_text(template):
    """The written form of a template."""
    layers, shared, components = template
    lines = [_line(0, ("layers", layers))]
    for name, expression in shared:
        lines.append(_line(0, ("shared", name, expression)))
    for component in components:
        lines.extend(_component_lines(component))
    return "\n".join(lines)


def _component_lines(component):
    name, parameters, states, body = component
    lines = [_line(0, ("component", name, parameters))]
    for state, expression in states:
        lines.append(_line(1, ("state", state, expression)))
    for depth, statement in body:
        lines.append(_line(depth + 1, statement))
    return lines


def _line(level, statement):
    return "  " * level + write_signs(statement_signs(statement))
