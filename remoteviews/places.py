"""Where the lines of a body may stand, and which variables are in reach there."""

# Where lines stand that are not allowed in any block; the empty word is the body itself.
ANY_BLOCK = ("", "element", "if", "else", "for", "provide", "try", "catch", "suspense", "fallback", "portal")
# The statement in whose block a line must stand directly, and what may stand ahead of it there.
OWN_BLOCKS = {
    "attr": ("element", ("attr",)),
    "on": ("element", ("attr", "on")),
    "expect": ("on", ()),
    "set": ("on", ("expect", "set")),
    "emit": ("on", ("expect", "set")),
}
# What the sibling ahead must be.
PARTNERS = {"else": "if", "catch": "try", "fallback": "suspense"}


class Block:
    """An open line, or the body itself with the statement None, and what stands directly in it."""

    def __init__(self, statement):
        self.statement = statement
        self.inside = []

    def first_word(self):
        """The first word of the line, or the empty text for the body itself."""
        return "" if self.statement is None else self.statement[0]

    def names(self, word):
        """The names that follow the first word, for the lines with this word."""
        return [statement[1] for statement in self.inside if statement[0] == word]


def may_stand(word, block):
    """Whether a line with this first word may be the next one directly in a block."""
    ahead = [statement[0] for statement in block.inside]
    if word in OWN_BLOCKS:
        outer, allowed = OWN_BLOCKS[word]
        return block.first_word() == outer and all(other in allowed for other in ahead)
    if block.first_word() not in ANY_BLOCK:
        return False
    return word not in PARTNERS or ahead[-1:] == [PARTNERS[word]]


def brought(blocks, word):
    """The variables that the enclosing lines bring to a line with this first word."""
    names = []
    for block in blocks:
        if block.first_word() == "for":
            names.extend(block.statement[1:3])
        elif block.first_word() == "catch":
            names.append(block.statement[1])
        elif block.first_word() == "on" and word != "expect":
            names.append(block.statement[2])
    return names
