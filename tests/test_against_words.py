"""Many small hedges, held against the document's words followed slowly."""

import random
import unittest

import oracle
from calling import ask, conflicts, form, settle, three, told_conflicts, told_merge


def some_tree(source, depth):
    if source.random() < 0.3:
        return ("leaf", source.choice("xyz'\\"), ())
    kids = some_hedge(source, depth - 1, 3) if depth > 1 and source.random() < 0.6 else ()
    return ("element", source.choice("abc"), kids)


def some_hedge(source, depth, most):
    return tuple(some_tree(source, depth) for place in range(source.randint(0, most)))


def some_change(source, hedge, depth):
    """A hedge that is like the one handed in, but for a few trees."""
    changed = []
    for kind, word, kids in hedge:
        chance = source.random()
        if chance < 0.12:
            continue
        if chance < 0.24:
            changed.append(some_tree(source, depth))
        if chance > 0.8:
            word = source.choice("xyz" if kind == "leaf" else "abc")
        if kind == "element" and depth > 1:
            kids = some_change(source, kids, depth - 1)
        changed.append((kind, word, kids))
    if source.random() < 0.15:
        changed.append(some_tree(source, depth))
    return tuple(changed[:5])


class AgainstTheWords(unittest.TestCase):

    def holds(self, old, one, two):
        calls = three(oracle.form(old), oracle.form(one), oracle.form(two))
        self.assertEqual(ask(calls), [[oracle.size(hedge)] for hedge in (old, one, two)])
        for number in (1, 2):
            hedge, found = oracle.outcome(old, one, two, number)
            self.assertEqual(told_merge(calls, number), (len(found), oracle.form(hedge)), calls)
            self.assertEqual(told_conflicts(calls), found, calls)
            written = [len(oracle.form(hedge))] + list(oracle.form(hedge).encode())
            self.assertEqual(ask(calls + [settle(number), form(0), form(1), form(2), conflicts()])[3:],
                             [[oracle.size(hedge)], written, written, written, [0]])

    def test_hedges_that_have_nothing_to_do_with_one_another(self):
        source = random.Random(1)
        for turn in range(300):
            self.holds(*[some_hedge(source, 3, 4) for which in range(3)])

    def test_changed_hedges(self):
        source = random.Random(2)
        for turn in range(700):
            old = some_hedge(source, 4, 4)
            self.holds(old, some_change(source, old, 4), some_change(source, old, 4))

    def test_rows_of_few_words(self):
        source = random.Random(3)
        for turn in range(300):
            rows = []
            for which in range(3):
                rows.append(tuple(source.choice((("element", "a", ()), ("element", "b", ()), ("leaf", "x", ())))
                                  for place in range(source.randint(0, 5))))
            self.holds(*rows)


if __name__ == "__main__":
    unittest.main()
