"""The least costs of scripts from one row of trees to another."""

from hedgemerge.tree import same_lead

PAIR = 0
DROP = 1
PUT = 2


class Grid:
    """costs[i][j] is the least cost from old[i:] to new[j:]; inner[i][j] is the grid of the children of a pair.

    The trees at the beginning that are the same in both rows are set apart, as lead: no script is cheaper than
    one that pairs them, and the told script pairs where it can.
    """

    def __init__(self, old, new):
        alike = same_lead(old, new)
        self.lead = new[:alike]
        self.old = old[alike:]
        self.new = new[alike:]
        self.inner = []
        for tree in self.old:
            self.inner.append([inner_grid(tree, other) for other in self.new])
        self.costs = [[]] * (len(self.old) + 1)
        self.costs[len(self.old)] = self.last_costs()
        for i in range(len(self.old) - 1, -1, -1):
            self.costs[i] = self.costs_before(i)

    def last_costs(self):
        line = [0] * (len(self.new) + 1)
        for j in range(len(self.new) - 1, -1, -1):
            line[j] = line[j + 1] + self.new[j].size
        return line

    def costs_before(self, i):
        drop = self.old[i].size
        after = self.costs[i + 1]
        line = [0] * (len(self.new) + 1)
        line[-1] = after[-1] + drop
        for j in range(len(self.new) - 1, -1, -1):
            least = min(after[j] + drop, line[j + 1] + self.new[j].size)
            if self.old[i].leaf == self.new[j].leaf:
                least = min(least, after[j + 1] + self.pair_cost(i, j))
            line[j] = least
        return line

    def pair_cost(self, i, j):
        one = self.old[i]
        other = self.new[j]
        renewed = 0 if one.word == other.word else 1
        inner = self.inner[i][j]
        if inner is None:
            # The children of at least one of the two are none, so all of the other's are dropped or put.
            return renewed + one.size + other.size - 2
        return renewed + inner.costs[0][0]

    def first_step(self, i, j):
        """The first step of the told script from old[i:] to new[j:], which are not both empty."""
        cost = self.costs[i][j]
        if i == len(self.old):
            return PUT
        if j < len(self.new) and self.old[i].leaf == self.new[j].leaf:
            if cost == self.pair_cost(i, j) + self.costs[i + 1][j + 1]:
                return PAIR
        if cost == self.old[i].size + self.costs[i + 1][j]:
            return DROP
        return PUT


def inner_grid(one, other):
    if one.kids and other.kids:
        return Grid(one.kids, other.kids)
    return None
