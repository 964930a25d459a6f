"""The document's words followed slowly. A tree is a tuple of "leaf" or "element", its word and its children's tuple;
a hedge is a tuple of trees."""

from functools import lru_cache

RANKS = {"pair": 0, "drop": 1, "put": 2}


def size(hedge):
    return sum(1 + size(kids) for kind, word, kids in hedge)


def form(hedge):
    return " ".join(tree_form(tree) for tree in hedge)


def tree_form(tree):
    kind, word, kids = tree
    if kind == "leaf":
        return "'" + word.replace("\\", "\\\\").replace("'", "\\'") + "'"
    return word + "(" + form(kids) + ")" if kids else word


def every_script(old, new):
    if not old and not new:
        yield ()
    if old and new and old[0][0] == new[0][0]:
        for rest in every_script(old[1:], new[1:]):
            yield (("pair", old[0], new[0]),) + rest
    if old:
        for rest in every_script(old[1:], new):
            yield (("drop", old[0], None),) + rest
    if new:
        for rest in every_script(old, new[1:]):
            yield (("put", None, new[0]),) + rest


def step_cost(step):
    what, old, new = step
    if what == "drop":
        return size((old,))
    if what == "put":
        return size((new,))
    return (old[1] != new[1]) + cost(told(old[2], new[2]))


def cost(script):
    return sum(step_cost(step) for step in script)


def told_by_trying(old, new):
    """The told script, found among all scripts there are; for short rows alone."""
    return min(every_script(old, new), key=lambda script: (cost(script), [RANKS[step[0]] for step in script]))


@lru_cache(maxsize=None)
def told(old, new):
    """The told script, found step by step: the first of the steps with which a script of the least cost begins."""
    scripts = []
    if old and new and old[0][0] == new[0][0]:
        scripts.append((("pair", old[0], new[0]),) + told(old[1:], new[1:]))
    if old:
        scripts.append((("drop", old[0], None),) + told(old[1:], new))
    if new:
        scripts.append((("put", None, new[0]),) + told(old, new[1:]))
    # Of several least ones, min takes the first.
    return min(scripts, key=cost, default=())


def distance(old, new):
    return cost(told(old, new))


def did(old, new):
    """What was put at each place, and with what each tree was paired, or None."""
    puts = [()]
    fates = []
    for what, taken, other in told(old, new):
        if what == "put":
            puts[-1] += (other,)
        else:
            fates.append(other)
            puts.append(())
    return puts, fates


def tally(old, new):
    """How many trees were put, dropped, named or written anew, paired, left alone."""
    puts, fates = did(old, new)
    counts = [sum(len(put) for put in puts), fates.count(None), 0, 0, 0]
    for tree, other in zip(old, fates):
        if other is not None:
            here = [0, 0, int(tree[1] != other[1]), 1, int(tree == other)]
            counts = [sum(parts) for parts in zip(counts, here, tally(tree[2], other[2]))]
    return counts


def fate(old, new, path):
    """What became of the node at path, if its word is new, how many trees were put before it; None if there is none
    or if it lies in a dropped one."""
    if not path or not 0 <= path[0] < len(old):
        return None
    puts, fates = did(old, new)
    tree, other = old[path[0]], fates[path[0]]
    if len(path) > 1:
        return None if other is None else fate(tree[2], other[2], path[1:])
    before = len(puts[path[0]])
    if other is None:
        return [0, 0, before]
    return [1 if tree == other else 2, int(tree[1] != other[1]), before]


def paths(hedge):
    """The paths of all nodes."""
    found = []
    for place, tree in enumerate(hedge):
        found.append((place,))
        found.extend((place,) + path for path in paths(tree[2]))
    return found


def outcome(old, one, two, prevails):
    """The outcome's hedge and the conflicts, if version prevails (1 or 2) does."""
    conflicts = []
    return merged_row(old, (one, two), prevails - 1, (), conflicts), conflicts


def merged_row(old, rows, prevails, path, conflicts):
    deeds = [did(old, new) for new in rows]
    merged = ()
    for place in range(len(old) + 1):
        here = path + (place,)
        put = [deed[0][place] for deed in deeds]
        if not put[0] or not put[1] or put[0] == put[1]:
            merged += put[0] or put[1]
        else:
            conflicts.append((1, list(here)))
            merged += put[prevails] + put[1 - prevails]
        if place < len(old):
            fates = [deed[1][place] for deed in deeds]
            merged += merged_tree(old[place], fates, prevails, here, conflicts)
    return merged


def merged_tree(old, fates, prevails, path, conflicts):
    if fates == [None, None]:
        return ()
    if None in fates:
        if old in fates:
            return ()
        conflicts.append((2, list(path)))
        return () if fates[prevails] is None else (fates[prevails],)
    words = [fate[1] for fate in fates]
    word = words[prevails] if words[prevails] != old[1] else words[1 - prevails]
    if old[1] not in words and words[0] != words[1]:
        conflicts.append((3, list(path)))
    kids = merged_row(old[2], [fate[2] for fate in fates], prevails, path, conflicts)
    return ((old[0], word, kids),)
