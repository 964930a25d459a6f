"""From a hedge to its form."""

from hedgemerge.signs import BACKSLASH, BLANK, LEFT_PAREN, QUOTE, RIGHT_PAREN


def hedge_form(hedge):
    written = []
    write_hedge(hedge, written)
    return written


def write_hedge(hedge, written):
    for place, tree in enumerate(hedge):
        if place > 0:
            written.append(BLANK)
        write_tree(tree, written)


def write_tree(tree, written):
    if tree.leaf:
        write_leaf(tree.word, written)
        return
    written.extend(tree.word)
    if tree.kids:
        written.append(LEFT_PAREN)
        write_hedge(tree.kids, written)
        written.append(RIGHT_PAREN)


def write_leaf(word, written):
    written.append(QUOTE)
    for byte in word:
        if byte in (QUOTE, BACKSLASH):
            written.append(BACKSLASH)
        written.append(byte)
    written.append(QUOTE)
