"""What a version did to the base, told in numbers."""

from hedgemerge.errors import NoNode
from hedgemerge.script import RowScript

DROPPED = 0
LEFT_ALONE = 1
CHANGED = 2


class Tally:
    """How much a version did in all the rows of the base, those within dropped trees left out."""

    def __init__(self, script):
        self.trees_put = 0
        self.trees_dropped = 0
        self.words_renewed = 0
        self.trees_paired = 0
        self.trees_alone = 0
        self.count_row(script)

    def count_row(self, row):
        for put in row.puts:
            self.trees_put += len(put)
        for fate in row.fates:
            if fate is None:
                self.trees_dropped += 1
            else:
                self.count_pair(fate)

    def count_pair(self, pair):
        if pair.alone:
            # All that is within it was paired and left alone too.
            self.trees_paired += pair.tree.size
            self.trees_alone += pair.tree.size
            return
        self.trees_paired += 1
        if pair.renewed:
            self.words_renewed += 1
        self.count_row(pair.row)


def told_fate(script, path):
    """What became of the tree at path, if its word was renewed (1 or 0), and how many trees were put before it."""
    if not path:
        raise NoNode()
    row = script
    for place in path[:-1]:
        row = row_within(fate_at(row, place))
    fate = fate_at(row, path[-1])
    renewed = 1 if fate is not None and fate.renewed else 0
    return [fate_kind(fate), renewed, len(row.puts[path[-1]])]


def fate_at(row, place):
    if place < 0 or place >= len(row.fates):
        raise NoNode()
    return row.fates[place]


def row_within(fate):
    if fate is None:
        raise NoNode()
    if fate.alone:
        return RowScript(0, fate.tree.kids)
    return fate.row


def fate_kind(fate):
    if fate is None:
        return DROPPED
    return LEFT_ALONE if fate.alone else CHANGED
