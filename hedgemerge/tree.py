"""Trees and hedges. A hedge is a list of trees; neither is changed once it is made, so they may be shared."""


class Tree:
    """A leaf, whose word is its text, or an element, whose word is its name. A word is a list of bytes."""

    def __init__(self, leaf, word, kids):
        self.leaf = leaf
        self.word = word
        self.kids = kids
        self.size = 1 + hedge_size(kids)


def hedge_size(hedge):
    return sum([tree.size for tree in hedge])


def same_tree(one, other):
    if one.size != other.size or one.leaf != other.leaf or one.word != other.word:
        return False
    return same_hedge(one.kids, other.kids)


def same_hedge(one, other):
    return len(one) == len(other) and same_lead(one, other) == len(one)


def same_lead(one, other):
    """How many trees at the beginning of both hedges are the same."""
    lead = 0
    while lead < len(one) and lead < len(other) and same_tree(one[lead], other[lead]):
        lead += 1
    return lead
