"""Lines of up to 400 calls, with hedges of up to 200 nodes."""

import random
import unittest

from calling import MOST_NUMBERS, as_bytes, ask, base, conflicts, did, distances, fate, form, line, merge, settle
from calling import take, three, version
from hedgemerge.desk import answers


def flat(word, count):
    return " ".join([word] * count)


def some_text(source, nodes, depth):
    """A hedge of just so many nodes, with a form of few bytes."""
    trees = []
    while nodes > 0:
        within = source.randint(0, nodes - 1) if depth > 1 and source.random() < 0.6 else 0
        if within:
            trees.append(source.choice("abc") + "(" + some_text(source, within, depth - 1) + ")")
        else:
            trees.append(source.choice(("a", "b", "c", "'x'")))
        nodes -= 1 + within
    return " ".join(trees)


def merged(number_of_conflicts, text):
    return [number_of_conflicts, len(text)] + as_bytes(text)


class LongLines(unittest.TestCase):

    def same(self, found, expected):
        # assertEqual would take minutes to show how two lists as long as these differ.
        self.assertTrue(found == expected, "the answers differ")

    def test_400_calls_on_200_nodes(self):
        before = three(flat("a", 200), flat("b", 200), flat("c", 200))
        asked = [merge(1), merge(2), conflicts(), form(1)] * 99
        answered = ask(before + asked + [settle(2)])
        told = [200]
        for place in range(200):
            told += [3, 1, place]
        expected = [merged(200, flat("b", 200)), merged(200, flat("c", 200)), told, [399] + as_bytes(flat("b", 200))]
        self.same(answered, [[200]] * 3 + expected * 99 + [[200]])

    def test_settled_again_and_again(self):
        calls = three(flat("a", 200), flat("b", 200), flat("a", 200)) + [settle(1), merge(2)] * 198
        self.same(ask(calls)[3:], [[200], merged(0, flat("b", 200))] * 198)

    def test_a_new_version_before_every_merge(self):
        calls = [base("a(b)" * 100)]
        expected = [[200]]
        for turn in range(35):
            name = "cdefg"[turn % 5]
            calls += [version(1 + turn % 2, (name + "(b)") * 100), merge(1)]
            text = flat(name + "(b)", 100) if turn % 2 == 0 or turn == 0 else flat("cdefg"[turn % 5 - 1] + "(b)", 100)
            expected += [[200], merged(100 if turn else 0, text)]
        self.same(ask(calls), expected)

    def test_an_outcome_of_400_nodes(self):
        calls = three("", flat("a", 200), flat("'x'", 200)) + [merge(1), merge(2), conflicts(), settle(1)]
        self.same(ask(calls)[3:], [merged(1, flat("a", 200) + " " + flat("'x'", 200)),
                                          merged(1, flat("'x'", 200) + " " + flat("a", 200)), [1, 1, 1, 0], [-5]])

    def test_a_list_of_16000_numbers(self):
        leaf = "'" + "x" * 200 + "'"
        text = (leaf + " ") * 78
        calls = [base(text), merge(1)] + [form(1)] * 50
        filled = line(calls)
        filled += line([base(" " * (MOST_NUMBERS - len(filled) - 2))])
        self.assertEqual(len(filled), MOST_NUMBERS)
        told = as_bytes(flat(leaf, 78))
        self.same(answers(filled), [1, 78] + [len(told) + 2, 0, len(told)] + told
                         + ([len(told) + 1, len(told)] + told) * 50 + [1, 0])

    def test_the_longest_hedge(self):
        text = "'" + "\\'" * 200 + "'"
        calls = [base((text + " ") * 39 + " " * (15900 - 403 * 39))]
        self.assertEqual(len(calls[0]), 15902)
        self.same(ask(calls + [merge(2)]), [[39], merged(0, flat(text, 39))])

    def test_one_version_like_the_base_or_both_alike(self):
        source = random.Random(4)
        for depth in (1, 2, 3, 5, 40):
            old = some_text(source, 200, depth)
            new = some_text(source, 200, depth)
            calls = three(old, old, new) + [merge(1), merge(2), conflicts()]
            calls += [version(1, new), merge(1), merge(2), conflicts()]
            calls += [version(2, old), merge(1), merge(2), conflicts()]
            same = [merged(0, new), merged(0, new), [0]]
            self.same(ask(calls), [[200]] * 3 + (same + [[200]]) * 2 + same)

    def test_a_line_is_its_calls_one_after_the_other(self):
        source = random.Random(5)
        before = three(*[some_text(source, 200, 4) for which in range(3)])
        asked = [merge(1), merge(2), conflicts(), form(0), form(1), form(2), did(1), did(2), fate(1, [0]), distances()]
        alone = [ask(before + [call])[-1] for call in asked]
        self.same(ask(before + asked * 39)[3:], alone * 39)

    def test_400_deeds_of_200_nodes(self):
        before = three("a(b)" * 100, "c(d)" * 100, "k " + "a(b)" * 99)
        asked = [did(1), did(2), fate(1, [99, 0]), fate(2, [98]), fate(2, [99]), distances()]
        told = [[0, 0, 200, 200, 0], [0, 1, 1, 199, 198], [2, 1, 0], [1, 0, 0], [1, 0, 0], [200, 2, 200]]
        self.same(ask(before + asked * 66)[3:], told * 66)

    def test_taken_again_and_again(self):
        text = flat("c(d)", 100)
        calls = three("a(b)" * 100, text, "a(b)" * 100) + [take(1, 1)] * 198 + [take(2, 2)] * 198 + [form(2)]
        self.same(ask(calls)[3:], [[200]] * 396 + [[len(text)] + as_bytes(text)])

    def test_taken_until_it_is_too_large(self):
        calls = three("", "a", "b") + [take(1, 1), distances()] * 198
        expected = []
        for turn in range(198):
            expected += [[turn + 2], [turn + 2, 1, turn + 1]]
        self.same(ask(calls)[3:], expected)
        calls = three("", flat("a", 100), "b") + [take(1, 2)] * 110 + [did(1), did(2), settle(2), settle(1)]
        self.same(ask(calls)[3:], [[101 + turn] for turn in range(100)] + [[-5]] * 10
                  + [[200, 0, 0, 0, 0], [1, 0, 0, 0, 0], [-5], [-5]])


if __name__ == "__main__":
    unittest.main()
