"""The document's words followed slowly: every script is tried. A tree is a tuple of "leaf" or "element", its word
and its children's tuple; a hedge is a tuple of trees."""

from functools import lru_cache

RANKS = {"pair": 0, "drop": 1, "put": 2}


def size(hedge):
    return sum(1 + size(kids) for kind, word, kids in hedge)


def form(hedge):
    return " ".join(tree_form(tree) for tree in hedge)


def tree_form(tree):
    kind, word, kids = tree
    if kind == "leaf":
        return "'" + word.replace("\\", "\\\\").replace("'", "\\'") + "'"
    return word + "(" + form(kids) + ")" if kids else word


def every_script(old, new):
    if not old and not new:
        yield ()
    if old and new and old[0][0] == new[0][0]:
        for rest in every_script(old[1:], new[1:]):
            yield (("pair", old[0], new[0]),) + rest
    if old:
        for rest in every_script(old[1:], new):
            yield (("drop", old[0], None),) + rest
    if new:
        for rest in every_script(old, new[1:]):
            yield (("put", None, new[0]),) + rest


def step_cost(step):
    what, old, new = step
    if what == "drop":
        return size((old,))
    if what == "put":
        return size((new,))
    return (old[1] != new[1]) + cost(told(old[2], new[2]))


def cost(script):
    return sum(step_cost(step) for step in script)


@lru_cache(maxsize=None)
def told(old, new):
    return min(every_script(old, new), key=lambda script: (cost(script), [RANKS[step[0]] for step in script]))


def did(old, new):
    """What was put at each place, and with what each tree was paired, or None."""
    puts = [()]
    fates = []
    for what, taken, other in told(old, new):
        if what == "put":
            puts[-1] += (other,)
        else:
            fates.append(other)
            puts.append(())
    return puts, fates


def outcome(old, one, two, prevails):
    """The outcome's hedge and the conflicts, if version prevails (1 or 2) does."""
    conflicts = []
    return merged_row(old, (one, two), prevails - 1, (), conflicts), conflicts


def merged_row(old, rows, prevails, path, conflicts):
    deeds = [did(old, new) for new in rows]
    merged = ()
    for place in range(len(old) + 1):
        here = path + (place,)
        put = [deed[0][place] for deed in deeds]
        if not put[0] or not put[1] or put[0] == put[1]:
            merged += put[0] or put[1]
        else:
            conflicts.append((1, list(here)))
            merged += put[prevails] + put[1 - prevails]
        if place < len(old):
            fates = [deed[1][place] for deed in deeds]
            merged += merged_tree(old[place], fates, prevails, here, conflicts)
    return merged


def merged_tree(old, fates, prevails, path, conflicts):
    if fates == [None, None]:
        return ()
    if None in fates:
        if old in fates:
            return ()
        conflicts.append((2, list(path)))
        return () if fates[prevails] is None else (fates[prevails],)
    words = [fate[1] for fate in fates]
    word = words[prevails] if words[prevails] != old[1] else words[1 - prevails]
    if old[1] not in words and words[0] != words[1]:
        conflicts.append((3, list(path)))
    kids = merged_row(old[2], [fate[2] for fate in fates], prevails, path, conflicts)
    return ((old[0], word, kids),)
