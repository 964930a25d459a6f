"""The told scripts and the two versions brought together: promises 4 and 5."""

import unittest

from calling import three, told_conflicts, told_merge


class Merging(unittest.TestCase):

    def merges(self, old, first, second, outcomes, conflicts):
        """outcomes: the form if version 1 prevails and if 2 does, or one form for both."""
        calls = three(old, first, second)
        if isinstance(outcomes, str):
            outcomes = (outcomes, outcomes)
        for number in (1, 2):
            self.assertEqual(told_merge(calls, number), (len(conflicts), outcomes[number - 1]), calls)
        self.assertEqual(told_conflicts(calls), conflicts)
        swapped = three(old, second, first)
        for number in (1, 2):
            self.assertEqual(told_merge(swapped, number), (len(conflicts), outcomes[2 - number]))
        self.assertEqual(told_conflicts(swapped), conflicts)


class Example(Merging):

    def test_the_example(self):
        self.merges("a(b 'x' c)", "a(b 'y')", "d(b 'z' c e)", ("d(b 'y' e)", "d(b 'z' e)"), [(3, [0, 1])])

    def test_the_example_with_an_empty_version(self):
        self.merges("a(b 'x' c)", "", "d(b 'z' c e)", ("", "d(b 'z' c e)"), [(2, [0])])


class WithoutConflict(Merging):

    def test_nothing_done(self):
        for old in ("", "a", "a(b 'x' c(d)) 'y' e"):
            self.merges(old, old, old, old, [])

    def test_one_did_something(self):
        self.merges("a(b 'x') c", "a(b 'x') c", "k(b 'y' d) c 'z'", "k(b 'y' d) c 'z'", [])

    def test_different_places(self):
        self.merges("a b c", "a x b c", "a b c y", "a x b c y", [])
        self.merges("a('x' 'y')", "a('k' 'y')", "a('x' 'l')", "a('k' 'l')", [])
        self.merges("a(b c)", "k(b c)", "a(b c d)", "k(b c d)", [])

    def test_both_did_the_same(self):
        self.merges("a b", "a x('y') b", "a x('y') b", "a x('y') b", [])
        self.merges("a('x')", "b('y')", "b('y')", "b('y')", [])
        self.merges("a b", "b", "b", "b", [])
        self.merges("", "a 'x'", "a 'x'", "a 'x'", [])

    def test_one_dropped_what_the_other_left_alone(self):
        self.merges("a(b 'x') c", "c", "a(b 'x') c", "c", [])
        self.merges("a(b 'x') c", "c 'd'", "a(b 'x') k", "k 'd'", [])

    def test_one_named_anew_and_the_other_changed_children(self):
        self.merges("a(b 'x')", "k(b 'x')", "a(b 'y' c)", "k(b 'y' c)", [])

    def test_both_dropped_and_put_elsewhere(self):
        self.merges("a b(m n) 'c'", "'x' b(m n)", "b(m n) y", "'x' b(m n) y", [])


class KindOne(Merging):

    def test_at_the_places_of_the_hedge(self):
        self.merges("", "a", "b", ("a b", "b a"), [(1, [0])])
        self.merges("k", "a k(l)", "'x' k", ("a 'x' k(l)", "'x' a k(l)"), [(1, [0])])
        self.merges("k", "k a", "k b", ("k a b", "k b a"), [(1, [1])])
        self.merges("k 'l'", "k a 'l'", "k b 'l'", ("k a b 'l'", "k b a 'l'"), [(1, [1])])

    def test_in_an_element(self):
        self.merges("m(k)", "m(k a)", "m(k b)", ("m(k a b)", "m(k b a)"), [(1, [0, 1])])
        self.merges("l m", "l m('x')", "l m('y')", ("l m('x' 'y')", "l m('y' 'x')"), [(1, [1, 0])])

    def test_several_trees_in_order(self):
        self.merges("k", "k a b(c)", "k a 'x'", ("k a b(c) a 'x'", "k a 'x' a b(c)"), [(1, [1])])

    def test_nearly_the_same_is_not_the_same(self):
        self.merges("k", "k a", "k a a", ("k a a a", "k a a a"), [(1, [1])])
        self.merges("k", "k a(b)", "k a(c)", ("k a(b) a(c)", "k a(c) a(b)"), [(1, [1])])
        self.merges("", "a", "'a'", ("a 'a'", "'a' a"), [(1, [0])])
        self.merges("", "a(b c)", "a(b(c))", ("a(b c) a(b(c))", "a(b(c)) a(b c)"), [(1, [0])])


class KindTwo(Merging):

    def test_dropped_and_changed(self):
        self.merges("a('x')", "", "b('x')", ("", "b('x')"), [(2, [0])])
        self.merges("a('x')", "", "a('y')", ("", "a('y')"), [(2, [0])])
        self.merges("'x' a", "a", "'y' a", ("a", "'y' a"), [(2, [0])])

    def test_changed_far_below(self):
        self.merges("a(b(c(d)))", "", "a(b(c(d e)))", ("", "a(b(c(d e)))"), [(2, [0])])

    def test_in_an_element(self):
        self.merges("k(a b('x'))", "k(a)", "k(a b('y'))", ("k(a)", "k(a b('y'))"), [(2, [0, 1])])

    def test_the_tree_is_as_the_prevailing_one_has_it(self):
        self.merges("k(a(b c d) l)", "k(l)", "k(m(b d e) l)", ("k(l)", "k(m(b d e) l)"), [(2, [0, 0])])


class KindThree(Merging):

    def test_leaf(self):
        self.merges("'x'", "'y'", "'z'", ("'y'", "'z'"), [(3, [0])])

    def test_element(self):
        self.merges("a(k l m)", "b(k l m)", "c(k l m)", ("b(k l m)", "c(k l m)"), [(3, [0])])

    def test_names_and_children(self):
        self.merges("a(k 'x' l)", "b(k 'y' l)", "c(k 'z' l)", ("b(k 'y' l)", "c(k 'z' l)"), [(3, [0]), (3, [0, 1])])


class Order(Merging):

    def test_a_spot_before_the_tree_there(self):
        self.merges("a(k l)", "'x' b(k l)", "'y' c(k l)", ("'x' 'y' b(k l)", "'y' 'x' c(k l)"), [(1, [0]), (3, [0])])
        self.merges("a(k l m)", "'x' 'z'", "'y' c(k l m) 'z'", ("'y' 'x' 'z' 'z'", "'y' c(k l m) 'z' 'x' 'z'"),
                    [(2, [0]), (1, [1])])

    def test_an_element_before_its_children_and_these_before_what_follows(self):
        self.merges("a(k('x') l m) n", "b(k('y') l m 'p') n q", "c(k('z') l m 'r') n s",
                    ("b(k('y') l m 'p' 'r') n q s", "c(k('z') l m 'r' 'p') n s q"),
                    [(3, [0]), (3, [0, 0, 0]), (1, [0, 3]), (1, [2])])

    def test_all_kinds_nested(self):
        self.merges("a(b('x') c('u' 'v') d) e",
                    "a('p' b('y') d) e", "a('q' b('z') c('u' 'w') d) e",
                    ("a('p' 'q' b('y') d) e", "a('q' 'p' b('z') c('u' 'w') d) e"),
                    [(1, [0, 0]), (3, [0, 0, 0]), (2, [0, 1])])

    def test_at_the_depth_of_40(self):
        deep = ["b(" * 39 + inmost + ")" * 39 for inmost in ("'x'", "'y'", "'z'")]
        self.merges(deep[0], deep[1], deep[2], (deep[1], deep[2]), [(3, [0] * 40)])

    def test_paths_are_those_of_the_base(self):
        self.merges("k 'a' l m(n)", "s t k 'b' l m(n)", "k 'c' l m(n o)", ("s t k 'b' l m(n o)", "s t k 'c' l m(n o)"),
                    [(3, [1])])
        self.merges("'x' k('y') l('z')", "l('u')", "'x' k('y') l('v')", ("l('u')", "l('v')"), [(3, [2, 0])])


class ToldScripts(Merging):
    """Each first version has several scripts of the least cost; the second one shows which is told."""

    def test_a_pair_comes_before_a_drop(self):
        self.merges("a a", "a", "a(b) a", "a(b)", [])
        self.merges("a a", "a", "a a(b)", ("a", "a a(b)"), [(2, [1])])

    def test_a_pair_comes_before_a_put(self):
        self.merges("a", "a a", "a(b)", "a(b) a", [])

    def test_new_names_come_before_a_drop_and_a_put(self):
        self.merges("a b", "b c", "a(x) b", "b(x) c", [])

    def test_new_texts_come_before_a_drop_and_a_put(self):
        self.merges("'a' 'b'", "'b' 'c'", "'d' 'b'", ("'b' 'c'", "'d' 'c'"), [(3, [0])])

    def test_a_drop_comes_before_a_put(self):
        self.merges("a", "'x'", "b a", ("b 'x'"), [])
        self.merges("a", "'x'", "a b", ("'x' b", "b 'x'"), [(1, [1])])
        self.merges("a 'x'", "'x' a", "k a 'x'", "k 'x' a", [])

    def test_the_same_within_pairs(self):
        self.merges("k(a a l)", "k(a l)", "k(a(b) a l)", "k(a(b) l)", [])
        self.merges("k(a)", "k('x')", "k(b a)", "k(b 'x')", [])

    def test_leaves_and_names_are_never_paired(self):
        self.merges("a", "'a'", "a(b)", ("'a'", "a(b) 'a'"), [(2, [0])])

    def test_size_counts(self):
        self.merges("a(b c d e) f", "f", "a(b c d e) f(g)", "f(g)", [])
        self.merges("a(b c d) f(x)", "f(b c d)", "a(b c d) f(x)", "f(b c d)", [])
        self.merges("a(b c d) f(x)", "f(b c d)", "k(b c d) f(x)", ("f(b c d)", "k(b c d)"), [(3, [0])])

    def test_a_cheaper_script_goes_before_the_order(self):
        self.merges("a(b c) d(e f)", "d(e f)", "a(b c) d(e f g)", "d(e f g)", [])
        self.merges("d(e f)", "a(b c) d(e f)", "d(e f g)", "a(b c) d(e f g)", [])


if __name__ == "__main__":
    unittest.main()
