"""Lines of calls of all ten kinds, held against the document's words followed slowly."""

import random
import unittest

import oracle
from calling import MOST_NUMBERS, ask, line
from growing import some_change, some_hedge
from hedgemerge.desk import answers
from model import NO_HEDGE, NO_NODE, NO_VERSION, TOO_MANY, Model

LARGE = 10 ** 18
NO_VERSIONS = (0, 3, -1, LARGE, -LARGE)


class Chance:
    """Makes calls by chance on a model, most of them such as are not refused."""

    def __init__(self, seed):
        self.source = random.Random(seed)
        self.model = Model()

    def number(self):
        return self.source.choice((1, 2) * 12 + NO_VERSIONS)

    def hedge(self):
        chance = self.source.random()
        if chance < 0.03:
            return NO_HEDGE
        if chance < 0.035:
            return TOO_MANY
        if chance < 0.3:
            return some_hedge(self.source, 3, 4)
        return some_change(self.source, self.source.choice(self.model.hedges), 4)

    def path(self):
        paths = oracle.paths(self.model.hedges[0])
        chance = self.source.random()
        if paths and chance < 0.8:
            return list(self.source.choice(paths))
        if chance < 0.9:
            return [self.source.choice((0, 0, 1, 2, -1)) for place in range(self.source.randint(0, 4))]
        return [self.source.choice((0, 1, LARGE, -LARGE)) for place in range(self.source.choice((1, 2, 3, 20)))]

    def call(self):
        kind = self.source.choice(("base", "settle") + ("version", "form", "merge", "conflicts", "did", "fate",
                                                        "distances", "take") * 2 + ("version", "fate"))
        make = getattr(self.model, kind)
        if kind == "base":
            return make(self.hedge())
        if kind == "version":
            return make(self.number(), self.hedge())
        if kind == "fate":
            return make(self.number(), self.path())
        if kind == "take":
            return make(self.number(), self.number())
        return make() if kind in ("conflicts", "distances") else make(self.number())


class WholeLines(unittest.TestCase):

    def test_lines_by_chance(self):
        kinds = {}
        for seed in range(40):
            chance = Chance(seed)
            made = [chance.call() for turn in range((400, 120, 30, 7)[seed % 4])]
            calls = [call for call, answer in made]
            numbers = line(calls)
            self.assertLessEqual(len(numbers), MOST_NUMBERS)
            kept = list(numbers)
            first = answers(numbers)
            self.assertEqual(numbers, kept)
            self.assertEqual(answers(numbers), first)
            for place, found in enumerate(ask(calls)):
                self.assertEqual(found, made[place][1], (seed, place, calls[place]))
                kinds.setdefault(calls[place][0], []).append(found[0])
        self.assertEqual(sorted(kinds), list(range(10)))
        self.every_refusal_came_up(kinds)

    def every_refusal_came_up(self, kinds):
        refusals = {kind: {number for number in kinds[kind] if number < 0} for kind in kinds}
        for kind in (2, 3, 5, 9):
            self.assertEqual(refusals[kind], {NO_VERSION})
        self.assertEqual(refusals[0], {NO_HEDGE, TOO_MANY})
        self.assertEqual(refusals[1], {NO_HEDGE, NO_VERSION, TOO_MANY})
        self.assertEqual(refusals[6], {NO_VERSION, NO_NODE})
        self.assertEqual(refusals[4] | refusals[7], set())
        self.assertEqual(refusals[8] - {TOO_MANY}, {NO_VERSION})

    def test_a_line_goes_on_where_the_calls_before_it_ended(self):
        chance = Chance(100)
        made = [chance.call() for turn in range(150)]
        calls = [call for call, answer in made]
        whole = ask(calls)
        for length in range(1, len(calls), 11):
            self.assertEqual(ask(calls[:length]), whole[:length])


if __name__ == "__main__":
    unittest.main()
