"""From a text to the hedge that it tells."""

from hedgemerge.errors import NoHedge
from hedgemerge.scanner import DOWN, LEAF, NAME, UP, cut_tokens
from hedgemerge.tree import Tree

MOST_DEPTH = 40
MOST_NODES = 2000


class Builder:
    """Keeps the rows that are not ended yet, since a text may nest deeper than calls may."""

    def __init__(self):
        self.rows = [[]]
        self.names = []
        self.nodes = 0

    def add_tree(self, leaf, word):
        self.nodes += 1
        if self.nodes > MOST_NODES or len(self.rows) > MOST_DEPTH:
            raise NoHedge()
        self.rows[-1].append(Tree(leaf, word, []))

    def go_down(self):
        # The element was added without children before its "(" was seen.
        self.names.append(self.rows[-1].pop().word)
        self.rows.append([])

    def come_up(self):
        if not self.names:
            raise NoHedge()
        kids = self.rows.pop()
        self.rows[-1].append(Tree(False, self.names.pop(), kids))

    def whole(self):
        if self.names:
            raise NoHedge()
        return self.rows[0]


def read_hedge(text):
    builder = Builder()
    kind_before = UP
    for token in cut_tokens(text):
        kind = token[0]
        if kind == DOWN:
            if kind_before != NAME:
                raise NoHedge()
            builder.go_down()
        elif kind == UP:
            builder.come_up()
        else:
            builder.add_tree(kind == LEAF, token[1])
        kind_before = kind
    return builder.whole()
