"""Where things are in the components of a template: blocks, lines that go together, instances."""


def block_end(body, line):
    """The number of the first line behind the block of a line."""
    end = line + 1
    while end < len(body) and body[end][0] > body[line][0]:
        end += 1
    return end


def inner_lines(body, line):
    """The numbers of the lines that stand directly in the block of a line."""
    return [inner for inner in range(line + 1, block_end(body, line)) if body[inner][0] == body[line][0] + 1]


def partner(body, line, word):
    """The number of the line with this first word that goes with a line ahead of it, or None."""
    end = block_end(body, line)
    if end < len(body) and body[end][0] == body[line][0] and body[end][1][0] == word:
        return end
    return None


def component_at(template, path):
    """The component of the instance with this path."""
    components = {component[0]: component for component in template[2]}
    component = template[2][-1]
    for line, _ in path:
        statement = component[3][line][1]
        # The other steps are entries of a repetition: they stay in the component.
        if statement[0] == "use":
            component = components[statement[1]]
    return component
