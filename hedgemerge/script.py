"""What a version did to the base, by the told script."""

from hedgemerge.grid import DROP, PAIR, Grid
from hedgemerge.tree import same_tree


class Pair:
    """What became of a tree that was paired; row is what was done to the children, if it was not left alone."""

    def __init__(self, tree, alone, renewed, row):
        self.tree = tree
        self.alone = alone
        self.renewed = renewed
        self.row = row


def pair_alone(tree):
    return Pair(tree, True, False, None)


class RowScript:
    """What was done to a row: puts[k] are the trees put before tree k; fates[k] is its Pair, or None if dropped.

    lead are the trees at the row's beginning that were left alone; the others are added one by one.
    """

    def __init__(self, cost, lead):
        self.cost = cost
        self.puts = [[]]
        self.fates = []
        for tree in lead:
            self.add_fate(pair_alone(tree))

    def add_put(self, tree):
        self.puts[-1].append(tree)

    def add_fate(self, fate):
        self.fates.append(fate)
        self.puts.append([])


def told_script(old, new):
    return grid_script(Grid(old, new))


def grid_script(grid):
    script = RowScript(grid.costs[0][0], grid.lead)
    i = 0
    j = 0
    while i < len(grid.old) or j < len(grid.new):
        step = grid.first_step(i, j)
        if step == PAIR:
            script.add_fate(grid_pair(grid, i, j))
            i += 1
            j += 1
        elif step == DROP:
            script.add_fate(None)
            i += 1
        else:
            script.add_put(grid.new[j])
            j += 1
    return script


def grid_pair(grid, i, j):
    one = grid.old[i]
    other = grid.new[j]
    if same_tree(one, other):
        return pair_alone(other)
    inner = grid.inner[i][j]
    row = told_script(one.kids, other.kids) if inner is None else grid_script(inner)
    return Pair(other, False, one.word != other.word, row)
