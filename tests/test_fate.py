"""What became of one tree of the base: promise 7."""

import unittest

from calling import ask, ask_last, base, fate, settle, take, three, version

NO_VERSIONS = (0, 3, -1, -2, 4, 10 ** 18, -10 ** 18)
LARGE = 10 ** 18
DROPPED = 0
ALONE = 1
CHANGED = 2


class Fates(unittest.TestCase):

    def fates(self, old, new, expected):
        """expected: what is answered, by the path as a text of numbers."""
        for path in expected:
            answer = expected[path]
            call = [int(number) for number in path.split()]
            for other in (old, new, "", "q('w' e) r"):
                self.assertEqual(ask_last(three(old, new, other) + [fate(1, call)]), answer, (old, new, path))
                self.assertEqual(ask_last(three(old, other, new) + [fate(2, call)]), answer, (old, new, path))


class Answers(Fates):

    def test_the_example(self):
        self.fates("a(b 'x' c)", "a(b 'y')",
                   {"0": [CHANGED, 0, 0], "0 0": [ALONE, 0, 0], "0 1": [CHANGED, 1, 0], "0 2": [DROPPED, 0, 0]})
        self.fates("a(b 'x' c)", "d(b 'z' c e)",
                   {"0": [CHANGED, 1, 0], "0 0": [ALONE, 0, 0], "0 1": [CHANGED, 1, 0], "0 2": [ALONE, 0, 0]})

    def test_left_alone(self):
        old = "a(b('x') c) 'y'"
        self.fates(old, old, {path: [ALONE, 0, 0] for path in ("0", "0 0", "0 0 0", "0 1", "1")})

    def test_dropped(self):
        self.fates("a 'x' b('y')", "", {"0": [DROPPED, 0, 0], "1": [DROPPED, 0, 0], "2": [DROPPED, 0, 0]})
        self.fates("k(a('x') l)", "k(l)", {"0": [CHANGED, 0, 0], "0 0": [DROPPED, 0, 0], "0 1": [ALONE, 0, 0]})

    def test_a_new_name_or_text(self):
        self.fates("a", "b", {"0": [CHANGED, 1, 0]})
        self.fates("'a'", "'b'", {"0": [CHANGED, 1, 0]})
        self.fates("a('x' b)", "c('x' b)", {"0": [CHANGED, 1, 0], "0 0": [ALONE, 0, 0], "0 1": [ALONE, 0, 0]})

    def test_changed_without_a_new_name(self):
        self.fates("a('x')", "a('y')", {"0": [CHANGED, 0, 0], "0 0": [CHANGED, 1, 0]})
        self.fates("a('x')", "a", {"0": [CHANGED, 0, 0], "0 0": [DROPPED, 0, 0]})
        self.fates("a", "a('x')", {"0": [CHANGED, 0, 0], "0 0": [-4]})
        self.fates("a(b(c(d)))", "a(b(c(e)))",
                   {"0": [CHANGED, 0, 0], "0 0": [CHANGED, 0, 0], "0 0 0": [CHANGED, 0, 0], "0 0 0 0": [CHANGED, 1, 0]})

    def test_a_new_name_and_new_children(self):
        self.fates("a(b 'x')", "k(b 'y' c)", {"0": [CHANGED, 1, 0], "0 0": [ALONE, 0, 0], "0 1": [CHANGED, 1, 0]})

    def test_put_directly_before(self):
        self.fates("'k' 'l' 'm'", "a 'k' b c 'l' 'm' d",
                   {"0": [ALONE, 0, 1], "1": [ALONE, 0, 2], "2": [ALONE, 0, 0], "3": [-4]})
        self.fates("n('k' 'l')", "n(a b 'k' c(d e) 'l' f)",
                   {"0": [CHANGED, 0, 0], "0 0": [ALONE, 0, 2], "0 1": [ALONE, 0, 1]})

    def test_put_before_the_others_too(self):
        self.fates("'k'", "a b(c) 'l'", {"0": [CHANGED, 1, 2]})
        self.fates("'k' p(q r s t)", "a 'k' b p(q r s t u)", {"0": [ALONE, 0, 1], "1": [CHANGED, 0, 1]})
        self.fates("'k' p(q r s t)", "a 'k' b w(q r s t)", {"0": [ALONE, 0, 1], "1": [CHANGED, 1, 1]})

    def test_put_beside_a_dropped_tree(self):
        # A drop goes before a put, so what is put in place of a dropped tree is put behind it.
        old = "'k' b 'k' b"
        new = "b b 'k'"
        self.fates(old, new, {"0": [DROPPED, 0, 0], "1": [ALONE, 0, 0], "2": [DROPPED, 0, 0], "3": [ALONE, 0, 0]})
        self.fates("a", "'x'", {"0": [DROPPED, 0, 0]})
        self.fates("a b(c d e)", "'x' b(c d e)", {"0": [DROPPED, 0, 0], "1": [ALONE, 0, 1]})

    def test_nested_paths(self):
        self.fates("a b(c d('x' e(f 'g')))", "a b(c d('x' e(f 'h' i)))",
                   {"1 1 1 1": [CHANGED, 1, 0], "1 1 1 0": [ALONE, 0, 0], "1 1 1": [CHANGED, 0, 0],
                    "1 1 0": [ALONE, 0, 0], "1 1": [CHANGED, 0, 0], "1 0": [ALONE, 0, 0], "1": [CHANGED, 0, 0],
                    "0": [ALONE, 0, 0]})

    def test_within_a_tree_left_alone(self):
        self.fates("a(b(c 'x'))", "k l a(b(c 'x'))",
                   {"0": [ALONE, 0, 2], "0 0": [ALONE, 0, 0], "0 0 0": [ALONE, 0, 0], "0 0 1": [ALONE, 0, 0]})

    def test_the_depth_of_40(self):
        deep = ["b(" * 39 + inmost + ")" * 39 for inmost in ("'x'", "'y'")]
        path = " ".join(["0"] * 40)
        self.fates(deep[0], deep[1], {path: [CHANGED, 1, 0], path + " 0": [-4], path[2:]: [CHANGED, 0, 0]})
        self.fates(deep[0], deep[0], {path: [ALONE, 0, 0], path + " 0": [-4], path[2:]: [ALONE, 0, 0]})
        self.fates(deep[0], "", {path: [-4], "0 0": [-4], "0": [DROPPED, 0, 0]})

    def test_the_last_of_200(self):
        self.fates("a " * 200, "b " * 200, {"199": [CHANGED, 1, 0], "200": [-4]})
        self.fates("'x'", "a " * 199 + "'x'", {"0": [ALONE, 0, 199]})

    def test_after_the_versions_changed(self):
        calls = three("a b", "a", "k a b") + [fate(1, [1]), fate(2, [0]), version(1, "a b(c)"), fate(1, [1])]
        calls += [take(1, 2), fate(1, [0]), fate(1, [1]), settle(1), fate(1, [0]), fate(2, [2, 0]), base("a b c"),
                  fate(2, [2, 0])]
        self.assertEqual(ask(calls)[3:], [[DROPPED, 0, 0], [ALONE, 0, 1], [3], [CHANGED, 0, 0], [4], [ALONE, 0, 1],
                                          [CHANGED, 0, 0], [4], [ALONE, 0, 0], [ALONE, 0, 0], [3], [-4]])


class NoNodes(Fates):

    def refused(self, old, new, paths):
        self.fates(old, new, {" ".join(str(number) for number in path): [-4] for path in paths})

    def test_the_empty_path(self):
        for old in ("", "a", "a(b) 'x'"):
            self.refused(old, old, [()])
            self.refused(old, "'k'", [()])

    def test_numbers_below_0(self):
        for number in (-1, -2, -3, -LARGE):
            self.refused("a(b c) d", "a(b c) d", [(number,), (0, number), (number, 0), (0, 0, number)])
            self.refused("a(b c) d", "a(b e) d", [(number,), (0, number), (number, 0), (0, 0, number)])

    def test_numbers_as_large_as_the_row_or_larger(self):
        for number in (2, 3, 200, LARGE):
            self.refused("a(b c) d", "a(b c) d", [(number,), (0, number), (number, 0), (number, LARGE)])
            self.refused("a(b c) d", "a(b c e f g) d h i j", [(number,), (0, number), (number, 0), (number, LARGE)])

    def test_an_empty_base(self):
        self.refused("", "", [(0,), (1,), (-1,), (0, 0)])
        self.refused("", "a(b) c", [(0,), (1,), (-1,), (0, 0)])

    def test_through_a_leaf_or_an_empty_element(self):
        for new in ("'x' a", "'y' a", "'x' b", "'x' a(b)", ""):
            self.refused("'x' a", new, [(0, 0), (1, 0), (0, -1), (1, 0, 0), (0, 1)])

    def test_a_path_of_the_version_is_not_meant(self):
        self.refused("a", "a(b c) d", [(0, 0), (0, 1), (1,)])

    def test_within_a_dropped_element(self):
        for new in ("", "'k'"):
            self.refused("a(b(c) d)", new, [(0, 0), (0, 0, 0), (0, 1)])
            self.fates("a(b(c) d)", new, {"0": [DROPPED, 0, 0]})
        self.refused("k(a(b(c) d) l)", "k(l)", [(0, 0, 0), (0, 0, 0, 0), (0, 0, 1), (0, 0, 2), (0, 0, -1)])

    def test_dropped_by_the_other_version(self):
        calls = three("a(b(c))", "", "a(b(k))")
        self.assertEqual(ask(calls + [fate(1, [0]), fate(1, [0, 0]), fate(2, [0, 0]), fate(2, [0, 0, 0])])[3:],
                         [[DROPPED, 0, 0], [-4], [CHANGED, 0, 0], [CHANGED, 1, 0]])

    def test_paths_of_100_numbers(self):
        deep = "b(" * 39 + "a" + ")" * 39
        for number in (0, 1, -1, LARGE, -LARGE):
            self.refused(deep, deep, [(number,) * 100])
            self.refused(deep, "c", [(number,) * 100])

    def test_what_follows_is_found(self):
        calls = [base("a"), fate(1, [LARGE] * 100), fate(3, [0] * 100), fate(2, []), fate(2, [0])]
        self.assertEqual(ask(calls), [[1], [-4], [-2], [-4], [ALONE, 0, 0]])


class NoVersion(unittest.TestCase):

    def test_it_comes_before_the_path(self):
        calls = three("a(b)", "a", "")
        for number in NO_VERSIONS:
            for path in ([0], [0, 0], [], [-1], [1], [LARGE], [0] * 100):
                self.assertEqual(ask_last(calls + [fate(number, path)]), [-2])


if __name__ == "__main__":
    unittest.main()
