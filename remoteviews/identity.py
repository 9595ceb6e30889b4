"""Which drawn nodes and instances are those that were there before, and what clients see of them."""


def numbered(visited, kept, next_number):
    """The instances behind a render, and the next number."""
    instances = []
    for path, number, component, states in visited:
        if number == 0:
            number = next_number
            next_number += 1
        instances.append((path, number, component, states))
    instances.extend(kept)
    return tuple(instances), next_number


def with_ids(nodes, instances, newest, next_id):
    """The ids of the drawn nodes, and the next id."""
    known = {row[1:]: row[0] for row in newest}
    numbers = _numbers(instances)
    ids = []
    for node in nodes:
        key = _key(node, ids, numbers)
        if key in known:
            ids.append(known[key])
        else:
            ids.append(next_id)
            next_id += 1
    return tuple(ids), next_id


def keys(nodes, ids, instances):
    """By what the nodes of a drawing are known again, each behind its id."""
    numbers = _numbers(instances)
    return tuple([(node_id,) + _key(node, ids, numbers) for node_id, node in zip(ids, nodes)])


def drawing(layers, nodes, ids):
    """The tree and the rows of the drawn nodes."""
    inner = [()] * len(nodes)
    roots = {number: [] for number in range(1, len(layers) + 1)}
    # From the last one on, because children are drawn behind their parents.
    for place in reversed(range(len(nodes))):
        made = _tree_node(nodes[place], ids[place], inner[place])
        around, layer = nodes[place][6:8]
        if layer == 0:
            inner[around] = (made,) + inner[around]
        else:
            roots[layer].append(made)
    rows = [("layer", number, name, tuple(roots[number][::-1])) for number, name in enumerate(layers, start=1)]
    return tuple(rows), node_rows(nodes, ids)


def node_rows(nodes, ids):
    """The rows of a drawing: of each node its id, that of the element around it or 0, and its handlers."""
    return tuple([(node_id, _id_at(ids, node[6]), _handlers(node)) for node_id, node in zip(ids, nodes)])


def _numbers(instances):
    """The numbers of the instances by their paths; the first one counts where a path is there twice."""
    numbers = {}
    for path, number, _, _ in instances:
        if path not in numbers:
            numbers[path] = number
    return numbers


def _key(node, ids, numbers):
    """By what a node is known again; the ids are those of the nodes ahead, at least."""
    kind, path, owner, word = node[:4]
    around, layer = node[6:8]
    around_id = _id_at(ids, around)
    return (path, numbers[owner], kind, word if kind == "element" else "", layer or around_id, around_id)


def _id_at(ids, place):
    return 0 if place < 0 else ids[place]


def _tree_node(node, node_id, inner):
    kind, word, attributes = node[0], node[3], node[4]
    if kind == "text":
        return (kind, node_id, word)
    return (kind, node_id, word, attributes, inner)


def _handlers(node):
    return tuple([(event, expected) for event, _, expected in node[5]])
