"""Templates, values and schedules that are drawn by lot, from a fixed seed."""

from remoteviews.trees import ids
from remoteviews.world import World

NONE = ("none",)
EVENTS = ("go", "buy", "set")
RESOURCES = ("a", "b")
PROVIDED = ("p", "q")
KEYS = ("a", "b", "c", "d", "e")


def some_scalar(rng):
    """Mostly an integer: so most expressions have what they want."""
    if rng.random() < 0.8:
        return ("int", rng.randint(0, 4))
    return rng.choice([NONE, ("bool", True), ("bool", False), ("text", "a"), ("text", 'x "y"\\')])


def some_value(rng):
    """Mostly a map."""
    if rng.random() < 0.1:
        return some_scalar(rng)
    keys = rng.sample(KEYS, rng.randint(1, 5))
    return ("map", tuple([(key, some_scalar(rng)) for key in keys]))


class Lines:
    """A template that grows line by line.

    All variables have different names; what is in reach are the names that are mostly integers.
    """

    def __init__(self, rng):
        self.rng = rng
        self.rows = []
        self.names = 0
        self.shared = []
        # The components ahead, with the numbers of their parameters.
        self.parts = []
        # What handlers of the component can assign, and how many lines there can be behind it.
        self.assigned = []
        self.most = 40
        # How often lines may fail or wait: more in what catches it.
        self.failing = 0.005
        self.waiting = 0.05

    def name(self):
        self.names += 1
        return f"v{self.names}"

    def choice(self, *things):
        return self.rng.choice(things)

    def chance(self, part):
        return self.rng.random() < part

    def left(self, wanted):
        """Whether so many lines are left for the component."""
        return len(self.rows) + wanted <= self.most

    def number(self, reach, deep=2):
        if self.chance(self.failing):
            return self.choice("sub(0, 1)", "sub(1, %s)" % self.choice("0", *reach), 'get(map("b", 1), "a")', "none")
        if deep == 0 or self.chance(0.4):
            return self.choice(*(list(reach) * 3 + ["0", "1", "2"]))
        inner = (self.number(reach, deep - 1), self.number(reach, deep - 1))
        return self.choice("add(%s, 1)" % inner[0], "add(%s, %s)" % inner, "size(%s)" % self.whole_map(reach, deep - 1),
                           "cond(%s, %s, 0)" % (self.truth(reach, deep - 1), inner[0]),
                           "inject(%s, %s)" % (self.choice(*PROVIDED), inner[0]))

    def truth(self, reach, deep=2):
        if deep == 0:
            return self.choice("true", "true", "false")
        inner = (self.number(reach, deep - 1), self.number(reach, deep - 1))
        return self.choice("not(%s)" % self.truth(reach, deep - 1), "eq(%s, %s)" % inner, "lt(%s, %s)" % inner,
                           "and(%s, lt(1, %s))" % (self.truth(reach, deep - 1), inner[0]),
                           'has(%s, "a")' % self.whole_map(reach, deep - 1))

    def whole_map(self, reach, deep=2):
        if self.chance(self.waiting):
            return self.choice('resource("a")', 'resource("b")')
        if deep == 0 or self.chance(0.5):
            return self.choice('map("a", 1, "b", 2)', 'map("c", 3, "a", 0, "b", 1, "d", 4)', 'map("e", 1, "a", 2)')
        inner = self.whole_map(reach, deep - 1)
        return self.choice("reverse(%s)" % inner, 'remove(%s, "a")' % inner, "take(%s, 2)" % inner,
                           'put(%s, "f", %s)' % (inner, self.number(reach, 0)))

    def content(self, reach, texts):
        return self.choice(self.number(reach), self.number(reach), "concat(%s, %s)" % (
            self.choice('"-"', *texts), self.number(reach, 1)))

    def add(self, level, text):
        self.rows.append("  " * level + text)

    def grow(self):
        self.add(0, "layers main, top")
        for _ in range(self.rng.randint(1, 3)):
            name = self.name()
            self.add(0, f"shared {name} = {self.choice('0', '1', '2', *self.shared)}")
            self.shared.append(name)
        for number in range(self.rng.randint(0, 3)):
            self.component(f"c{number}", self.rng.randint(0, 2), 8)
        self.component("page", 1, 40 - len(self.rows))
        return "\n".join(self.rows)

    def component(self, name, parameter_count, line_count):
        self.most = len(self.rows) + line_count
        parameters = [self.name() for _ in range(parameter_count)]
        self.add(0, "component %s(%s)" % (name, ", ".join(parameters)))
        reach = self.shared + parameters
        states = []
        for _ in range(self.rng.randint(0, 2)):
            state = self.name()
            self.add(1, f"state {state} = {self.number(reach, 1)}")
            reach = reach + [state]
            states.append(state)
        self.assigned = self.shared + states
        while self.left(2):
            self.line(1, reach, [])
        self.parts.append((name, parameter_count))

    def block(self, level, reach, texts):
        for _ in range(self.rng.randint(1, 3)):
            if level < 5 and self.left(2):
                self.line(level, reach, texts)

    def line(self, level, reach, texts):
        word = self.choice("text", "text", "element", "element", "element", "element", "if", "for", "for", "use", "use",
                           "use", "provide", "try", "try", "suspense", "suspense", "portal")
        if word == "text" or word == "use" and not self.parts:
            self.add(level, "text " + self.content(reach, texts))
        elif word == "element":
            self.element(level, reach, texts)
        elif word == "if":
            self.add(level, "if " + self.truth(reach))
            self.block(level + 1, reach, texts)
            self.other(level, "else", reach, texts)
        elif word == "for":
            key, scalar = self.name(), self.name()
            part = self.choice("", f" offset {self.choice('0', '1', *reach)} limit 2", " offset 1 limit 1")
            self.add(level, f"for {key} {scalar} in {self.whole_map(reach, 1)}{part}")
            self.block(level + 1, reach + [scalar], texts + [key])
        elif word == "use":
            name, count = self.choice(*self.parts)
            arguments = [self.number(reach, 1) for _ in range(count)]
            self.add(level, "use %s(%s)" % (name, ", ".join(arguments)))
        elif word == "provide":
            self.add(level, f"provide {self.choice(*PROVIDED)} = {self.number(reach, 1)}")
            self.block(level + 1, reach, texts)
        elif word == "try":
            self.catching(level, reach, texts)
        elif word == "suspense":
            self.suspending(level, reach, texts)
        else:
            self.add(level, "portal " + self.choice("main", "top"))
            self.block(level + 1, reach, texts)

    def catching(self, level, reach, texts):
        self.add(level, "try")
        before = self.failing
        self.failing = 0.15
        self.block(level + 1, reach, texts)
        self.failing = before
        message = self.name()
        self.other(level, "catch " + message, reach, texts + [message])

    def suspending(self, level, reach, texts):
        self.add(level, "suspense")
        before = self.waiting
        self.waiting = 0.4
        self.block(level + 1, reach, texts)
        self.waiting = before
        self.other(level, "fallback", reach, texts)

    def other(self, level, text, reach, texts):
        """Perhaps the line that goes with another one."""
        if self.chance(0.8) and self.left(2):
            self.add(level, text)
            self.block(level + 1, reach, texts)

    def element(self, level, reach, texts):
        self.add(level, "element " + self.choice("row", "cell"))
        if self.chance(0.3) and self.left(1):
            self.add(level + 1, "attr tone = " + self.number(reach, 1))
        for event in self.rng.sample(EVENTS, self.rng.randint(1, 3)):
            if self.left(4):
                self.handler(level + 1, event, reach)
        self.block(level + 1, reach, texts)

    def handler(self, level, event, reach):
        scalar = self.name()
        self.add(level, f"on {event}({scalar})")
        if self.chance(0.6):
            self.add(level + 1, "expect " + self.choice("none", *reach, *self.assigned))
        if self.chance(0.9):
            self.add(level + 1, "set %s = %s" % (self.choice(*self.assigned), self.choice(
                scalar, self.number(reach + [scalar], 1))))
        if self.chance(0.2):
            self.add(level + 1, "emit %s(%s)" % (self.choice(*EVENTS), self.choice(scalar, "1")))


def some_text(rng):
    """The text of a template, with the layers main and top."""
    return Lines(rng).grow()


class Run:
    """A world with deeds that are drawn by lot."""

    def __init__(self, rng):
        self.rng = rng
        self.world = World("shop", some_text(rng))
        self.world.connect()
        self.world.connect()

    def deeds(self):
        """What can be done, each as often as is its weight."""
        return ([self.connect, self.disconnect, self.replace, self.stop] + [self.resolve, self.drop, self.double] * 2
                + [self.update, self.report] * 6 + [self.by_hand, self.queue] * 12 + [self.deliver] * 14)

    def step(self):
        self.rng.choice(self.deeds())()

    def client(self):
        return self.rng.choice(self.world.server.clients() or [0])

    def connect(self):
        if len(self.world.server.clients()) < 4:
            self.world.connect()

    def disconnect(self):
        if len(self.world.server.clients()) > 2:
            self.world.disconnect(self.client())

    def replace(self):
        self.world.server.replace(some_text(self.rng))

    def resolve(self):
        self.world.server.resolve(self.rng.choice(RESOURCES), some_value(self.rng))

    def update(self):
        self.world.update(self.client())

    def report(self):
        self.world.report(self.rng.choice(list(self.world.views)))

    def by_hand(self):
        client = self.client()
        self.world.server.dispatch(client, self.node(self.world.server.session(client)[3]), self.rng.choice(EVENTS),
                                   some_scalar(self.rng))

    def node(self, tree):
        """A node, but a layer only if it must be, or by a small chance."""
        found = ids(tree)
        return self.rng.choice(found[-1:] + [one for one in found if one > 3] * 5 + found)

    def queue(self):
        view = self.rng.choice(list(self.world.views.values()))
        if view.tree() and view.outstanding() < 8:
            view.queue(self.node(view.tree()), self.rng.choice(EVENTS), some_scalar(self.rng))

    def place(self):
        return self.rng.randrange(len(self.world.wire()))

    def drop(self):
        if self.world.wire():
            self.world.drop(self.place())

    def double(self):
        if self.world.wire():
            self.world.double(self.place())

    def deliver(self):
        if self.world.wire():
            self.world.deliver(self.place())

    def stop(self):
        self.world.stop(self.rng.randint(0, len(self.world.server.log())))
