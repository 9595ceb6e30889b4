"""Templates that grow line by line; a line that is not right is refused with a reason."""

from remoteviews.evaluation import evaluate
from remoteviews.expressions import RESERVED, variables
from remoteviews.places import Block, brought, may_stand
from remoteviews.statements import expressions_of

MOST_LAYERS = 3
MOST_SHARED = 4
MOST_COMPONENTS = 6
MOST_PARAMETERS = 3
MOST_STATES = 3
DEEPEST_LINE = 6


class Part:
    """A component that grows."""

    def __init__(self, name, parameters):
        self.name = name
        self.parameters = parameters
        self.states = []
        self.body = []
        # The body itself, then the enclosing lines of the next line, as far as it is deep.
        self.blocks = [Block(None)]

    def told(self):
        """The component as it stands in a template."""
        return (self.name, self.parameters, tuple(self.states), tuple(self.body))


class Draft:
    """A template that grows; each reason is the one of the first refusal, or None."""

    def __init__(self, component_count):
        self.component_count = component_count
        self.layers = ()
        self.shared = []
        self.first_values = {}
        self.parts = []

    def told(self):
        """The template."""
        return (self.layers, tuple(self.shared), tuple([part.told() for part in self.parts]))

    def grow(self, level, statement):
        """Adds a line if it is right; the reason why it is not."""
        word = statement[0]
        if word == "layers":
            return self._add_layers(statement[1])
        if word == "shared":
            return self._add_shared(statement[1], statement[2])
        if word == "component":
            return self._add_component(statement[1], statement[2])
        if word == "state":
            return self._add_state(statement[1], statement[2])
        return self._add_line(level - 1, statement)

    def _add_layers(self, names):
        self.layers = names
        if len(names) > MOST_LAYERS:
            return "too many layers"
        for place, name in enumerate(names):
            if name in names[:place]:
                return _defined(name)
        return None

    def _add_shared(self, name, expression):
        reason = self._shared_reason(name, expression)
        if reason is not None:
            return reason
        result = evaluate(expression, self.first_values, (), {})
        if result[0] != "value":
            return f"{name} has no initial value"
        self.shared.append((name, expression))
        self.first_values[name] = result[1]
        return None

    def _shared_reason(self, name, expression):
        if len(self.shared) == MOST_SHARED:
            return "too many shared variables"
        return _name_reason(name, self.first_values) or _reach_reason([expression], self.first_values)

    def _add_component(self, name, parameters):
        reason = self._component_reason(name, parameters)
        self.parts.append(Part(name, parameters))
        return reason

    def _component_reason(self, name, parameters):
        if len(self.parts) == MOST_COMPONENTS:
            return "too many components"
        if name in [part.name for part in self.parts]:
            return _defined(name)
        if len(parameters) > MOST_PARAMETERS:
            return "too many parameters"
        for place, parameter in enumerate(parameters):
            reason = _name_reason(parameter, list(self.first_values) + list(parameters[:place]))
            if reason is not None:
                return reason
        if len(self.parts) + 1 == self.component_count and len(parameters) != 1:
            return "root component must have one parameter"
        return None

    def _add_state(self, name, expression):
        part = self.parts[-1]
        reason = self._state_reason(part, name, expression)
        part.states.append((name, expression))
        return reason

    def _state_reason(self, part, name, expression):
        if len(part.states) == MOST_STATES:
            return "too many state variables"
        reach = self._component_reach(part)
        return _name_reason(name, reach) or _reach_reason([expression], reach)

    def _component_reach(self, part):
        """The variables that are in reach in all of a component."""
        return list(self.first_values) + list(part.parameters) + [name for name, _ in part.states]

    def _add_line(self, depth, statement):
        part = self.parts[-1]
        reason = _place_reason(part, depth, statement[0])
        if reason is not None:
            return reason
        # What was open at this depth and deeper ends here.
        part.blocks = part.blocks[:depth + 1]
        reach = self._component_reach(part) + brought(part.blocks, statement[0])
        reason = self._own_reason(part, statement, reach) or _reach_reason(expressions_of(statement), reach)
        part.body.append((depth, statement))
        part.blocks[depth].inside.append(statement)
        part.blocks.append(Block(statement))
        return reason

    def _own_reason(self, part, statement, reach):
        """Why the names of a body line are not right, looked at by its statement."""
        word = statement[0]
        block = part.blocks[-1]
        if word in ("attr", "on") and statement[1] in block.names(word):
            return _defined(statement[1])
        if word == "on":
            return _name_reason(statement[2], reach)
        if word == "set":
            return self._set_reason(part, statement[1], block)
        if word == "for":
            return _name_reason(statement[1], reach) or _name_reason(statement[2], reach + [statement[1]])
        if word == "use":
            return self._use_reason(statement[1], len(statement[2]))
        if word == "provide":
            return _name_reason(statement[1], [])
        if word == "catch":
            return _name_reason(statement[1], reach)
        if word == "portal" and statement[1] not in self.layers:
            return f"unknown layer: {statement[1]}"
        return None

    def _set_reason(self, part, name, block):
        if name not in self.first_values and name not in [state for state, _ in part.states]:
            return f"{name} cannot be assigned"
        return _defined(name) if name in block.names("set") else None

    def _use_reason(self, name, argument_count):
        # The last part is the component in which the line stands: it is not ahead of itself.
        for part in self.parts[:-1]:
            if part.name == name:
                if len(part.parameters) == argument_count:
                    return None
                return f"{name} expects a different number of arguments"
        return f"unknown component: {name}"


def _place_reason(part, depth, word):
    if depth > DEEPEST_LINE:
        return "nested too deeply"
    if depth >= len(part.blocks) or not may_stand(word, part.blocks[depth]):
        return "not allowed here"
    return None


def _defined(name):
    return f"{name} is already defined"


def _name_reason(name, taken):
    """Why a variable cannot have a name, beside those that are taken."""
    if name in RESERVED:
        return f"{name} is a reserved word"
    return _defined(name) if name in taken else None


def _reach_reason(expressions, reach):
    for expression in expressions:
        for name in variables(expression):
            if name not in reach:
                return f"undefined name: {name}"
    return None
