"""The patch that leads from one tree to another one, with as few moves as can be."""

from remoteviews.trees import children, parents, walk

NONE = ("none",)


def goes_over(one, other):
    """Whether a tree goes over into another one."""
    if [layer[1:3] for layer in one] != [layer[1:3] for layer in other[:len(one)]]:
        return False
    old = _identities(one)
    new = _identities(other)
    return all(old[node_id] == new[node_id] for node_id in old if node_id in new)


def diff(one, other):
    """The patch from a tree to another one into which it goes over."""
    old = {node[1]: node for node in walk(one)}
    new = {node[1]: node for node in walk(other)}
    patch = _removals(parents(one), new)
    patch.extend(_arrivals(0, one, other, old))
    for node_id in sorted(new):
        before = old.get(node_id)
        patch.extend(_changes(before, new[node_id]))
        patch.extend(_arrivals(node_id, () if before is None else children(before), children(new[node_id]), old))
    return tuple(patch)


def staying(places):
    """The list of the indices of the row that stays."""
    lengths = _lengths(places)
    row = []
    left = max(lengths, default=0)
    for at, length in enumerate(lengths):
        # The first one that a longest row can go on with: any other row differs there, and later.
        if length == left and (not row or places[row[-1]] < places[at]):
            row.append(at)
            left -= 1
    return row


def _lengths(places):
    """For each index, how long the longest ascending row is that begins there."""
    lengths = [1] * len(places)
    for at in reversed(range(len(places))):
        for behind in range(at + 1, len(places)):
            if places[at] < places[behind]:
                lengths[at] = max(lengths[at], lengths[behind] + 1)
    return lengths


def _identities(tree):
    """What must not change of the nodes, by their ids: kind, name if it has one, parent."""
    outer = parents(tree)
    return {node[1]: (node[0], "" if node[0] == "text" else node[2], outer[node[1]]) for node in walk(tree)}


def _removals(outer, new):
    """The operations that remove nodes; those within a removed one go with it."""
    gone = [node_id for node_id in outer if node_id not in new and outer[node_id] in new]
    return [("remove", node_id) for node_id in sorted(gone)]


def _changes(before, node):
    """The operations for the attributes or the content of a node; before is None for a new one."""
    if node[0] == "element":
        return _attribute_changes(node[1], () if before is None else before[3], node[3])
    if node[0] == "text" and before is not None and before[2] != node[2]:
        return [("content", node[1], node[2])]
    return []


def _attribute_changes(node_id, before, behind):
    had = dict(before)
    has = dict(behind)
    gone = [("attr", node_id, name, NONE) for name, _ in before if name not in has]
    return gone + [("attr", node_id, name, scalar) for name, scalar in behind if had.get(name) != scalar]


def _arrivals(parent, before, behind, old):
    """The operations that bring the children of a node to their places."""
    stay = _staying_ids(before, behind)
    operations = []
    after = 0
    for child in behind:
        if child[1] not in old:
            operations.append(_creation(child, parent, after))
        elif child[1] not in stay:
            operations.append(("move", child[1], after))
        after = child[1]
    return operations


def _staying_ids(before, behind):
    """The ids of the children that do not move, as the keys of a dict."""
    places = {child[1]: place for place, child in enumerate(before)}
    common = [child[1] for child in behind if child[1] in places]
    indices = staying(tuple([places[node_id] for node_id in common]))
    return {common[at]: True for at in indices}


def _creation(child, parent, after):
    kind, node_id, word = child[:3]
    if kind == "layer":
        return (kind, node_id, word)
    return (kind, node_id, parent, after, word)
