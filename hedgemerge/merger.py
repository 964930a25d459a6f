"""What two versions did, brought together. Where two are handed in, the first one prevails."""

from hedgemerge.tree import Tree, same_hedge

BOTH_PUT = 1
DROPPED_AND_CHANGED = 2
BOTH_RENEWED = 3


class Outcome:
    """The outcome for the whole base; each conflict is a tuple of its kind and its path."""

    def __init__(self, first, second):
        self.conflicts = []
        self.hedge = self.merged_row([], first, second)

    def add_conflict(self, kind, path):
        self.conflicts.append((kind, path))

    def merged_row(self, path, first, second):
        """The outcome for the row below path, from what the two did to it."""
        trees = []
        for place, put in enumerate(first.puts):
            spot = path + [place]
            trees.extend(self.merged_puts(spot, put, second.puts[place]))
            if place < len(first.fates):
                trees.extend(self.merged_fates(spot, first.fates[place], second.fates[place]))
        return trees

    def merged_puts(self, spot, first, second):
        if not second or same_hedge(first, second):
            return first
        if first:
            self.add_conflict(BOTH_PUT, spot)
        return first + second

    def merged_fates(self, path, first, second):
        if first is None and second is None:
            return []
        if first is not None and second is not None:
            return [self.merged_pairs(path, first, second)]
        kept = second if first is None else first
        if kept.alone:
            return []
        self.add_conflict(DROPPED_AND_CHANGED, path)
        return [] if first is None else [first.tree]

    def merged_pairs(self, path, first, second):
        # Where one did nothing, within the children either, all is as the other has it.
        if first.alone:
            return second.tree
        if second.alone:
            return first.tree
        word = first.tree.word if first.renewed else second.tree.word
        if first.renewed and second.renewed and first.tree.word != second.tree.word:
            self.add_conflict(BOTH_RENEWED, path)
        return Tree(first.tree.leaf, word, self.merged_row(path, first.row, second.row))
