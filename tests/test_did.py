"""What a version did to the base, in numbers: promise 6."""

import unittest

from calling import ask, ask_last, base, did, settle, take, three, version

DEEP = "b(" * 39 + "'x'" + ")" * 39


class Did(unittest.TestCase):

    def counts(self, old, new, put=0, dropped=0, renewed=0, paired=0, alone=0):
        """Version 1 and version 2 are counted alike, whatever the other one is."""
        expected = [put, dropped, renewed, paired, alone]
        for other in (old, new, "", "q('w' e) r"):
            self.assertEqual(ask_last(three(old, new, other) + [did(1)]), expected, (old, new))
            self.assertEqual(ask_last(three(old, other, new) + [did(2)]), expected, (old, new))

    def test_the_example(self):
        self.counts("a(b 'x' c)", "a(b 'y')", dropped=1, renewed=1, paired=3, alone=1)
        self.counts("a(b 'x' c)", "d(b 'z' c e)", put=1, renewed=2, paired=4, alone=2)

    def test_a_version_that_is_the_base(self):
        self.counts("", "")
        self.counts("a", "a", paired=1, alone=1)
        self.counts("a(b('x') c) 'y' d(e)", "a(b('x') c) 'y' d(e)", paired=7, alone=7)
        self.counts(DEEP, DEEP, paired=40, alone=40)
        self.assertEqual(ask([base("a(b) c"), did(1), did(2)])[1:], [[0, 0, 0, 3, 3]] * 2)

    def test_a_new_object(self):
        self.assertEqual(ask([did(1), did(2)]), [[0, 0, 0, 0, 0]] * 2)

    def test_an_empty_base(self):
        self.counts("", "a", put=1)
        self.counts("", "a 'x' b", put=3)

    def test_an_empty_version(self):
        self.counts("a", "", dropped=1)
        self.counts("a 'x' b", "", dropped=3)

    def test_put_trees_count_one_each(self):
        self.counts("", "a(b(c 'x') d) e(f)", put=2)
        self.counts("k", "k a(b c d)", put=1, paired=1, alone=1)
        self.counts("k(l)", "k(l a(b(c)))", put=1, paired=2, alone=1)

    def test_dropped_trees_count_one_each_and_hide_what_is_in_them(self):
        self.counts("a(b(c 'x') d) e(f)", "", dropped=2)
        self.counts("k a(b c d)", "k", dropped=1, paired=1, alone=1)
        self.counts("k(l a(b(c)))", "k(l)", dropped=1, paired=2, alone=1)

    def test_put_at_all_places(self):
        self.counts("'k' 'l'", "a 'k' b c 'l' d e f", put=6, paired=2, alone=2)
        self.counts("m('k' 'l')", "m(a 'k' b c 'l' d)", put=4, paired=3, alone=2)
        self.counts("m", "m('x' 'y')", put=2, paired=1)

    def test_pairs_at_every_depth_count(self):
        self.counts("a(b(c('x' 'y')))", "a(b(c('x' 'z')))", renewed=1, paired=5, alone=1)
        self.counts("a(b(c d) e(f)) g(h)", "a(b(c d) e(i)) g(h)", renewed=1, paired=8, alone=5)
        self.counts("b(" * 39 + "'x'" + ")" * 39, "b(" * 39 + "'y'" + ")" * 39, renewed=1, paired=40)

    def test_names_and_texts_made_new(self):
        self.counts("'x'", "'y'", renewed=1, paired=1)
        self.counts("a", "b", renewed=1, paired=1)
        self.counts("a('x' b)", "c('y' d)", renewed=3, paired=3)

    def test_a_new_name_does_not_make_the_children_new(self):
        self.counts("a('x' b)", "c('x' b)", renewed=1, paired=3, alone=2)

    def test_a_new_name_and_new_children_at_once(self):
        self.counts("a(b c(d))", "k(b c(d e) 'f')", put=2, renewed=1, paired=4, alone=2)
        self.counts("a(b 'x' c(d))", "k(b 'y')", dropped=1, renewed=2, paired=3, alone=1)
        self.counts("a", "b(c d(e))", put=2, renewed=1, paired=1)

    def test_leaves_and_elements_are_not_paired(self):
        self.counts("a", "'a'", put=1, dropped=1)
        self.counts("k(a)", "k('a')", put=1, dropped=1, paired=1)
        self.counts("k(a 'x')", "k('a' x)", put=1, dropped=1, renewed=1, paired=2)

    def test_only_what_the_told_script_did(self):
        self.counts("a b", "b c", renewed=2, paired=2)
        self.counts("a a", "a", dropped=1, paired=1, alone=1)
        self.counts("a('x' 'y' 'z') b", "b", dropped=1, paired=1, alone=1)

    def test_200_nodes(self):
        self.counts("a " * 200, "b " * 200, renewed=200, paired=200)
        self.counts("a(b)" * 100, "a(c)" * 100, renewed=100, paired=200)
        self.counts("", "a " * 200, put=200)
        self.counts("a " * 200, "", dropped=200)

    def test_no_version(self):
        calls = three("a", "b", "c")
        for number in (0, 3, -1, -2, 4, 10 ** 18, -10 ** 18):
            self.assertEqual(ask_last(calls + [did(number)]), [-2])
            self.assertEqual(ask([did(number)]), [[-2]])

    def test_after_the_versions_changed(self):
        calls = three("a b", "a", "a b c") + [did(1), did(2), version(1, "a b 'x'"), did(1), did(2)]
        calls += [take(1, 1), did(1), take(2, 1), did(2), settle(1), did(1), did(2), base("k"), did(2)]
        self.assertEqual(ask(calls)[3:], [[0, 1, 0, 1, 1], [1, 0, 0, 2, 2], [3], [1, 0, 0, 2, 2], [1, 0, 0, 2, 2],
                                          [4], [2, 0, 0, 2, 2], [5], [3, 0, 0, 2, 2], [7], [0, 0, 0, 7, 7],
                                          [0, 0, 0, 7, 7], [1], [0, 0, 0, 1, 1]])


if __name__ == "__main__":
    unittest.main()
