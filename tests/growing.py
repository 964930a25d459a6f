"""Hedges made by chance, as the tuples of the oracle."""


def some_tree(source, depth):
    if source.random() < 0.3:
        return ("leaf", source.choice("xyz'\\"), ())
    kids = some_hedge(source, depth - 1, 3) if depth > 1 and source.random() < 0.6 else ()
    return ("element", source.choice("abc"), kids)


def some_hedge(source, depth, most):
    return tuple(some_tree(source, depth) for place in range(source.randint(0, most)))


def some_change(source, hedge, depth):
    """A hedge that is like the one handed in, but for a few trees."""
    changed = []
    for kind, word, kids in hedge:
        chance = source.random()
        if chance < 0.12:
            continue
        if chance < 0.24:
            changed.append(some_tree(source, depth))
        if chance > 0.8:
            word = source.choice("xyz" if kind == "leaf" else "abc")
        if kind == "element" and depth > 1:
            kids = some_change(source, kids, depth - 1)
        changed.append((kind, word, kids))
    if source.random() < 0.15:
        changed.append(some_tree(source, depth))
    return tuple(changed[:5])
