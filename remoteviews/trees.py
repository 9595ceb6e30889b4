"""Trees of layers, elements and texts, and patches that change them."""

from remoteviews.errors import BadPatch

MOST_LAYERS = 3
# The ids below are for layers.
FIRST_NODE = 5
NONE = ("none",)


class Node:
    """A node of a tree that is changed; the word is a name or a content."""

    def __init__(self, kind, parent, word):
        self.kind = kind
        self.parent = parent
        self.word = word
        self.scalars = {}
        self.inner = []


class Board:
    """A tree that is changed: its nodes by their ids, and the ids of its layers."""

    def __init__(self):
        self.nodes = {}
        self.layers = []

    def row(self, parent):
        """The list of the ids of the children of a node, or of the layers if the parent is 0."""
        return self.layers if parent == 0 else self.nodes[parent].inner

    def is_kind(self, node_id, kinds):
        """Whether there is a node with this id, of one of these kinds."""
        return node_id in self.nodes and self.nodes[node_id].kind in kinds


def apply_patch(tree, patch):
    """The tree behind a patch."""
    board = _board_of(tree)
    for operation in patch:
        kind, *rest = operation
        action = ACTIONS[kind]
        action(board, *rest)
    return _tree_of(board)


def find(tree, node_id):
    """The node with this id, or None."""
    for node in walk(tree):
        if node[1] == node_id:
            return node
    return None


def ids(tree):
    """The list of all ids, each node ahead of its children, the layers in order."""
    return [node[1] for node in walk(tree)]


def walk(tree):
    """The list of all nodes, each one ahead of what is in it, and that ahead of the next one."""
    nodes = []
    waiting = list(tree[::-1])
    while waiting:
        node = waiting.pop()
        nodes.append(node)
        waiting.extend(list(children(node)[::-1]))
    return nodes


def children(node):
    """The tuple of the children of a node."""
    return () if node[0] == "text" else node[-1]


def parents(tree):
    """The ids of the parents by the ids of their children; that of a layer is 0."""
    found = {layer[1]: 0 for layer in tree}
    for node in walk(tree):
        for child in children(node):
            found[child[1]] = node[1]
    return found


def _board_of(tree):
    board = Board()
    outer = parents(tree)
    for thing in walk(tree):
        kind, node_id, word = thing[:3]
        node = Node(kind, outer[node_id], word)
        if kind == "element":
            node.scalars = dict(thing[3])
        board.nodes[node_id] = node
        board.row(node.parent).append(node_id)
    return board


def _tree_of(board):
    made = {}
    # Each node has a greater id than its parent, so the children are made first.
    for node_id in sorted(board.nodes, reverse=True):
        made[node_id] = _made_node(node_id, board.nodes[node_id], made)
    return tuple([made[node_id] for node_id in board.layers])


def _made_node(node_id, node, made):
    if node.kind == "text":
        return ("text", node_id, node.word)
    inner = tuple([made[child] for child in node.inner])
    if node.kind == "layer":
        return ("layer", node_id, node.word, inner)
    attributes = tuple([(name, node.scalars[name]) for name in sorted(node.scalars)])
    return ("element", node_id, node.word, attributes, inner)


def _add_layer(board, node_id, name):
    if node_id != len(board.layers) + 1 or node_id > MOST_LAYERS:
        raise BadPatch()
    board.nodes[node_id] = Node("layer", 0, name)
    board.layers.append(node_id)


def _remove(board, node_id):
    _need_kind(board, node_id, ("element", "text"))
    board.row(board.nodes[node_id].parent).remove(node_id)
    going = [node_id]
    while going:
        gone = going.pop()
        going.extend(board.nodes[gone].inner)
        del board.nodes[gone]


def _add_element(board, node_id, parent, after, name):
    _add_node(board, node_id, Node("element", parent, name), after)


def _add_text(board, node_id, parent, after, content):
    _add_node(board, node_id, Node("text", parent, content), after)


def _add_node(board, node_id, node, after):
    if node_id < FIRST_NODE or node_id <= node.parent or node_id in board.nodes:
        raise BadPatch()
    _need_kind(board, node.parent, ("layer", "element"))
    _put_behind(board.row(node.parent), node_id, after)
    board.nodes[node_id] = node


def _move(board, node_id, after):
    _need_kind(board, node_id, ("element", "text"))
    row = board.row(board.nodes[node_id].parent)
    # Taken out first: then it is no child behind which it could stand itself.
    row.remove(node_id)
    _put_behind(row, node_id, after)


def _put_behind(row, node_id, after):
    if after != 0 and after not in row:
        raise BadPatch()
    row.insert(0 if after == 0 else row.index(after) + 1, node_id)


def _set_attribute(board, node_id, name, scalar):
    _need_kind(board, node_id, ("element",))
    scalars = board.nodes[node_id].scalars
    if scalar != NONE:
        scalars[name] = scalar
    elif name in scalars:
        del scalars[name]


def _set_content(board, node_id, content):
    _need_kind(board, node_id, ("text",))
    board.nodes[node_id].word = content


def _need_kind(board, node_id, kinds):
    if not board.is_kind(node_id, kinds):
        raise BadPatch()


ACTIONS = {
    "layer": _add_layer,
    "remove": _remove,
    "element": _add_element,
    "text": _add_text,
    "move": _move,
    "attr": _set_attribute,
    "content": _set_content,
}
