"""Many small hedges, held against the document's words followed slowly."""

import random
import unittest

import oracle
from calling import ask, conflicts, did, distances, fate, form, settle, take, three, told_conflicts, told_merge
from growing import some_change, some_hedge


def counted(hedge):
    text = oracle.form(hedge)
    return [len(text)] + list(text.encode())


class AgainstTheWords(unittest.TestCase):

    def holds(self, old, one, two):
        calls = three(oracle.form(old), oracle.form(one), oracle.form(two))
        self.assertEqual(ask(calls), [[oracle.size(hedge)] for hedge in (old, one, two)])
        for new in (one, two):
            self.assertEqual(oracle.told(old, new), oracle.told_by_trying(old, new))
        self.outcomes_hold(calls, old, one, two)
        self.deeds_hold(calls, old, one, two)

    def outcomes_hold(self, calls, old, one, two):
        for number in (1, 2):
            hedge, found = oracle.outcome(old, one, two, number)
            nodes = [oracle.size(hedge)]
            written = counted(hedge)
            self.assertEqual(told_merge(calls, number), (len(found), oracle.form(hedge)), calls)
            self.assertEqual(told_conflicts(calls), found, calls)
            self.assertEqual(ask(calls + [settle(number), form(0), form(1), form(2), conflicts()])[3:],
                             [nodes, written, written, written, [0]])
            self.assertEqual(ask(calls + [take(1, number), form(0), form(1), form(2)])[3:],
                             [nodes, counted(old), written, counted(two)])
            self.assertEqual(ask(calls + [take(2, number), form(0), form(1), form(2)])[3:],
                             [nodes, counted(old), counted(one), written])

    def deeds_hold(self, calls, old, one, two):
        paths = oracle.paths(old)
        for number, new in ((1, one), (2, two)):
            self.assertEqual(ask(calls + [did(number)])[3], oracle.tally(old, new), calls)
            fates = [oracle.fate(old, new, path) or [-4] for path in paths]
            self.assertEqual(ask(calls + [fate(number, path) for path in paths])[3:], fates, calls)
        expected = [oracle.distance(old, one), oracle.distance(old, two), oracle.distance(one, two)]
        self.assertEqual(ask(calls + [distances()])[3], expected, calls)

    def test_hedges_that_have_nothing_to_do_with_one_another(self):
        source = random.Random(1)
        for turn in range(300):
            self.holds(*[some_hedge(source, 3, 4) for which in range(3)])

    def test_changed_hedges(self):
        source = random.Random(2)
        for turn in range(700):
            old = some_hedge(source, 4, 4)
            self.holds(old, some_change(source, old, 4), some_change(source, old, 4))

    def test_rows_of_few_words(self):
        source = random.Random(3)
        for turn in range(300):
            rows = []
            for which in range(3):
                rows.append(tuple(source.choice((("element", "a", ()), ("element", "b", ()), ("leaf", "x", ())))
                                  for place in range(source.randint(0, 5))))
            self.holds(*rows)


if __name__ == "__main__":
    unittest.main()
