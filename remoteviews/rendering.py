"""What a template draws for a client: nodes and instances, or why there are none."""

from remoteviews.bodies import block_end, inner_lines, partner
from remoteviews.errors import ViewError
from remoteviews.evaluation import evaluate, wrong_kind
from remoteviews.values import plain

BUDGET = 80
NONE = ("none",)
TRUE = ("bool", True)


class Failed(ViewError):
    """A line or an entry fails, with a message."""

    def __init__(self, message):
        self.message = message


class Waiting(ViewError):
    """A line waits for a resource."""

    def __init__(self, resource):
        self.resource = resource


class Home:
    """An instance while it is rendered."""

    def __init__(self, body, path, is_new):
        self.body = body
        self.path = path
        self.is_new = is_new


class Place:
    """What is around a line; the parent is a pair (around, layer), as drawn nodes have them."""

    def __init__(self, home, path, scope, provided, parent):
        self.home = home
        # That of the instance, and the steps of the entries around.
        self.path = path
        self.scope = scope
        self.provided = provided
        self.parent = parent

    def statement_at(self, line):
        """The statement of a line of the component."""
        return self.home.body[line][1]

    def with_variables(self, variables, path):
        """This place with more variables in reach, at a path."""
        scope = dict(self.scope)
        scope.update(variables)
        return Place(self.home, path, scope, self.provided, self.parent)

    def with_provided(self, name, value):
        """This place with one more provided value, ahead of the others."""
        return Place(self.home, self.path, self.scope, ((name, value),) + self.provided, self.parent)

    def with_parent(self, around, layer):
        """This place within an element or a portal."""
        return Place(self.home, self.path, self.scope, self.provided, (around, layer))


class Painter:
    """A render as far as it has come."""

    def __init__(self, template, shared, resources, instances):
        self.components = {component[0]: component for component in template[2]}
        self.layers = {name: number for number, name in enumerate(template[0], start=1)}
        self.shared = {name: shared[name] for name, _ in template[1] if name in shared}
        self.resources = resources
        self.instances = instances
        self.budget = BUDGET
        self.nodes = []
        self.visited = []
        # The places that are put aside: (path, first line, the line behind the last one, key or None).
        self.aside = []

    def take(self):
        """Takes 1 of the budget."""
        if self.budget == 0:
            raise Failed("render budget exceeded")
        self.budget -= 1

    def value(self, expression, place, kind):
        """The value of an expression, which must be of a kind."""
        result = evaluate(expression, place.scope, place.provided, self.resources)
        if result[0] == "error":
            raise Failed(result[1])
        if result[0] == "waits":
            raise Waiting(result[1])
        message = wrong_kind(result[1], kind)
        if message is not None:
            raise Failed(message)
        return result[1]

    def draw_lines(self, place, start, end):
        """Renders the lines that are not in the blocks of other ones, from a number up to another one."""
        line = start
        while line < end:
            word = place.statement_at(line)[0]
            # The others belong to the line that they go with.
            if word in ACTIONS:
                self.take()
                action = ACTIONS[word]
                action(self, place, line)
            line = block_end(place.home.body, line)

    def draw_block(self, place, line):
        """Renders the block of a line."""
        self.draw_lines(place, line + 1, block_end(place.home.body, line))

    def add_node(self, place, line, kind, word, attributes, handlers):
        """Draws a node."""
        around, layer = place.parent
        path = place.path + ((line, ""),)
        scope = tuple([(name, place.scope[name]) for name in sorted(place.scope)])
        node = (kind, path, place.home.path, word, attributes, handlers, around, layer, line, scope, place.provided)
        self.nodes.append(node)

    def enter(self, component, values, path, outer):
        """Renders an instance of a component, with the values of its parameters, used at a place."""
        name, parameters, states, body = component
        # In a new instance all others are new, whatever the client has at their paths.
        known = None if outer.home.is_new else self._known(path, name)
        variables = dict(self.shared)
        for parameter, value in zip(parameters, values):
            variables[parameter] = value
        had = {} if known is None else dict(known[3])
        home = Home(body, path, known is None)
        # Its scope grows state by state: each is in reach of those behind it.
        place = Place(home, path, variables, outer.provided, outer.parent)
        for state, expression in states:
            variables[state] = had[state] if state in had else self.value(expression, place, "any")
        held = tuple([(state, variables[state]) for state, _ in states])
        self.visited.append((path, 0 if known is None else known[1], name, held))
        self.draw_lines(place, 0, len(body))

    def _known(self, path, name):
        """The instance of a component that the client has at a path, or None."""
        for instance in self.instances:
            if instance[0] == path and instance[2] == name:
                return instance
        return None

    def error_in(self, place, line):
        """Renders the block of a line; the message if it fails, of which nothing is left then, or None."""
        drawn = (len(self.nodes), len(self.visited))
        try:
            self.draw_block(place, line)
        except Failed as failure:
            self._leave_out(drawn, place, line)
            return failure.message
        return None

    def waits_in(self, place, line):
        """Renders the block of a line; whether it waits, nothing of it being left then."""
        drawn = (len(self.nodes), len(self.visited))
        try:
            self.draw_block(place, line)
        except Waiting:
            self._leave_out(drawn, place, line)
            return True
        return False

    def _leave_out(self, drawn, place, line):
        """Goes back to the nodes and visited instances that were there, and puts the block of a line aside."""
        node_count, visited_count = drawn
        self.nodes = self.nodes[:node_count]
        self.visited = self.visited[:visited_count]
        self.put_aside(place, line + 1, block_end(place.home.body, line), None)

    def put_aside(self, place, first, end, key):
        """Puts the lines from a number up to another one aside; only the steps with a key, if it is not None."""
        if not place.home.is_new:
            self.aside.append((place.path, first, end, key))

    def kept(self):
        """The instances that are kept."""
        numbers = [instance[1] for instance in self.visited]
        return tuple([one for one in self.instances if one[1] not in numbers and self._is_aside(one[0])])

    def _is_aside(self, path):
        return any(_goes_through(path, place) for place in self.aside)


def render(template, client, shared, resources, instances):
    """What is drawn, or the error, or the resource for which it waits."""
    painter = Painter(template, shared, resources, instances)
    # The root is in no instance: so nothing keeps it from being taken up.
    nowhere = Place(Home((), (), False), (), {}, (), (-1, 1))
    try:
        painter.enter(template[2][-1], [("int", client)], (), nowhere)
    except Failed as failure:
        return ("error", failure.message)
    except Waiting as waiting:
        return ("waits", waiting.resource)
    return ("drawn", tuple(painter.nodes), tuple(painter.visited), painter.kept())


def _goes_through(path, place):
    """Whether a path goes through a place that is put aside."""
    start, first, end, key = place
    if len(path) <= len(start) or path[:len(start)] != start:
        return False
    line, own_key = path[len(start)]
    return first <= line < end and key in (None, own_key)


def _draw_text(painter, place, line):
    content = painter.value(place.statement_at(line)[1], place, "scalar")
    painter.add_node(place, line, "text", plain(content), (), ())


def _draw_element(painter, place, line):
    scalars = {}
    handlers = []
    for inner in inner_lines(place.home.body, line):
        statement = place.statement_at(inner)
        if statement[0] == "attr":
            scalars[statement[1]] = painter.value(statement[2], place, "scalar")
        elif statement[0] == "on":
            handlers.append((statement[1], inner, _expected(painter, place, inner)))
    attributes = tuple([(name, scalars[name]) for name in sorted(scalars) if scalars[name] != NONE])
    number = len(painter.nodes)
    painter.add_node(place, line, "element", place.statement_at(line)[1], attributes, tuple(handlers))
    painter.draw_block(place.with_parent(number, 0), line)


def _expected(painter, place, line):
    """The expected value of a handler, in a tuple that is empty if it has none."""
    for inner in inner_lines(place.home.body, line):
        statement = place.statement_at(inner)
        if statement[0] == "expect":
            return (painter.value(statement[1], place, "any"),)
    return ()


def _draw_if(painter, place, line):
    if painter.value(place.statement_at(line)[1], place, "boolean") == TRUE:
        painter.draw_block(place, line)
    else:
        _draw_partner(painter, place, line, "else")


def _draw_partner(painter, place, line, word):
    """Renders the block of the line that goes with a line, if there is one."""
    other = partner(place.home.body, line, word)
    if other is not None:
        painter.draw_block(place, other)


def _draw_for(painter, place, line):
    _, key_name, scalar_name, expression, offset, limit = place.statement_at(line)
    entries = painter.value(expression, place, "map")[1]
    first = 0
    end = len(entries)
    if offset is not None:
        first = painter.value(offset, place, "integer")[1]
        end = first + painter.value(limit, place, "integer")[1]
    for number, (key, scalar) in enumerate(entries):
        if first <= number < end:
            painter.take()
            variables = {key_name: ("text", key), scalar_name: scalar}
            painter.draw_block(place.with_variables(variables, place.path + ((line, key),)), line)
        else:
            painter.put_aside(place, line, line + 1, key)


def _draw_use(painter, place, line):
    _, name, arguments = place.statement_at(line)
    values = [painter.value(argument, place, "any") for argument in arguments]
    painter.enter(painter.components[name], values, place.path + ((line, ""),), place)


def _draw_provide(painter, place, line):
    _, name, expression = place.statement_at(line)
    value = painter.value(expression, place, "any")
    painter.draw_block(place.with_provided(name, value), line)


def _draw_try(painter, place, line):
    message = painter.error_in(place, line)
    other = partner(place.home.body, line, "catch")
    if message is not None and other is not None:
        variables = {place.statement_at(other)[1]: ("text", message)}
        painter.draw_block(place.with_variables(variables, place.path), other)


def _draw_suspense(painter, place, line):
    if painter.waits_in(place, line):
        _draw_partner(painter, place, line, "fallback")


def _draw_portal(painter, place, line):
    around, _ = place.parent
    painter.draw_block(place.with_parent(around, painter.layers[place.statement_at(line)[1]]), line)


ACTIONS = {
    "text": _draw_text,
    "element": _draw_element,
    "if": _draw_if,
    "for": _draw_for,
    "use": _draw_use,
    "provide": _draw_provide,
    "try": _draw_try,
    "suspense": _draw_suspense,
    "portal": _draw_portal,
}
