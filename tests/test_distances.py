"""How far the base and the versions are from one another: promise 8."""

import unittest

from calling import ask, ask_last, base, distances, settle, take, three, version


class Distances(unittest.TestCase):

    def are(self, old, first, second, expected):
        """expected: base and version 1, base and version 2, the two versions; it is the same the other way round."""
        one, two, between = expected
        self.assertEqual(ask_last(three(old, first, second) + [distances()]), [one, two, between])
        self.assertEqual(ask_last(three(old, second, first) + [distances()]), [two, one, between])
        self.assertEqual(ask_last(three(first, old, second) + [distances()]), [one, between, two])

    def test_the_example(self):
        self.are("a(b 'x' c)", "a(b 'y')", "d(b 'z' c e)", [2, 3, 4])

    def test_the_same(self):
        self.assertEqual(ask([distances(), base("a(b 'x') c"), distances()]), [[0, 0, 0], [4], [0, 0, 0]])
        self.are("a(b)", "a(b)", "a(b)", [0, 0, 0])
        self.are("a(b)", "a(b)", "a(b c)", [0, 1, 1])
        self.are("a(b)", "a(c)", "a(c)", [1, 1, 0])

    def test_empty_hedges(self):
        self.are("", "", "", [0, 0, 0])
        self.are("", "a(b 'x') c", "", [4, 0, 4])
        self.are("", "a", "'x' b(c)", [1, 3, 3])
        self.are("a(b 'x') c", "", "", [4, 4, 0])
        self.are("a(b 'x') c", "", "c", [4, 3, 1])

    def test_new_names_and_texts_cost_one_each(self):
        self.are("a", "b", "c", [1, 1, 1])
        self.are("'x'", "'y'", "'zzzz'", [1, 1, 1])
        self.are("a('x' b)", "c('x' b)", "d('y' e)", [1, 3, 3])

    def test_drops_and_puts_cost_as_many_as_there_are_nodes(self):
        self.are("k", "k a(b(c) d)", "k a", [4, 1, 3])
        self.are("k(l a(b(c) d))", "k(l)", "l", [4, 6, 2])

    def test_a_leaf_and_an_element_are_not_paired(self):
        self.are("a", "'a'", "a('a')", [2, 1, 3])

    def test_the_least_cost_counts(self):
        self.are("a b c d", "b c d", "d a b c", [1, 2, 3])
        self.are("a(b c d) f(x)", "f(b c d)", "f(x)", [3, 4, 3])
        self.are("'x' 'y' 'z'", "'z'", "'y' 'z' 'x'", [2, 2, 2])

    def test_nodes_keep_their_depth(self):
        self.are("a(b(c))", "b(c)", "c", [3, 3, 2])

    def test_at_the_depth_of_40(self):
        deep = ["b(" * 39 + inmost + ")" * 39 for inmost in ("'x'", "'y'", "a")]
        self.are(deep[0], deep[1], deep[2], [1, 2, 2])
        self.are(deep[0], "", "c(" * 39 + "'x'" + ")" * 39, [40, 39, 40])

    def test_200_nodes(self):
        self.are("a " * 200, "b " * 200, "'x' " * 200, [200, 400, 400])
        self.are("a(b)" * 100, "a(c)" * 100, "d(c)" * 100, [100, 200, 100])
        self.are("a " * 200, "", "b(" + "a " * 199 + ")", [200, 399, 200])
        self.are("a(" * 39 + "b " * 161 + ")" * 39, "a(" * 38 + "b " * 162 + ")" * 38, "b " * 200, [323, 399, 399])

    def test_after_the_versions_changed(self):
        calls = three("a b", "a", "a b c") + [distances(), distances(), version(1, "a b(d)"), distances()]
        calls += [version(2, "k(l) a b"), distances(), take(1, 1), distances(), take(2, 2), distances()]
        calls += [settle(1), distances(), version(2, ""), distances(), base("a"), distances()]
        found = ask(calls)[3:]
        self.assertEqual(found, [[1, 1, 2], [1, 1, 2], [3], [1, 1, 2], [4], [1, 2, 3], [5], [3, 2, 1], [5], [3, 3, 0],
                                 [5], [0, 0, 0], [0], [0, 5, 5], [1], [0, 0, 0]])


if __name__ == "__main__":
    unittest.main()
