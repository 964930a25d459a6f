"""Which texts tell a hedge, and which one: promises 1 and 3, and what they say of "the hedge"."""

import unittest

from calling import ask, base, form, told_form, version

NO_HEDGE = -1
TOO_MANY = -5


class Reading(unittest.TestCase):

    def reads(self, text, nodes, written=None):
        self.assertEqual(ask([base(text)]), [[nodes]], text)
        self.assertEqual(told_form([base(text)], 0), text if written is None else written)

    def refuses(self, text, refusal=NO_HEDGE):
        """Refused as a base and as a version, and all stays as it was."""
        answers = ask([base("k('l')"), base(text), version(2, text), form(0), form(1), form(2)])
        kept = [6] + list(b"k('l')")
        self.assertEqual(answers, [[2], [refusal], [refusal], kept, kept, kept], text)

    def test_ordinary_hedges(self):
        self.reads("a", 1)
        self.reads("title('it\\'s' b('x' 'y')) c", 6)
        self.reads("a(b(c(d)) e) f(g h)", 8)
        self.reads("'x' 'y z' a0 z9('q')", 5)

    def test_empty_hedge(self):
        self.reads("", 0)
        self.reads(" \n \n", 0, "")

    def test_blanks_between_tokens(self):
        self.reads(" \n a \n ( b\n\n'x' ) \n", 3, "a(b 'x')")
        self.reads("a(b)c'x''y'd(e)", 7, "a(b) c 'x' 'y' d(e)")

    def test_other_bytes_are_no_blanks(self):
        for byte in list(range(0, 10)) + list(range(11, 32)) + list(range(127, 256)):
            self.refuses([97, byte, 98])
            self.refuses([byte])

    def test_other_signs_begin_no_token(self):
        for sign in "!\"#$%&*+,-./:;<=>?@AMZ[\\]^_`{|}~":
            self.refuses("a " + sign)
            self.refuses(sign + "a")
            self.refuses("a" + sign + "b")

    def test_names(self):
        self.reads("z", 1)
        self.reads("a0123456789b", 1)
        self.reads("abcdefghijkl(z99)", 2)
        self.refuses("abcdefghijklm")
        self.refuses("a0123456789bc")
        self.refuses("a" * 7000)
        self.refuses("a(abcdefghijklm)")

    def test_stretch_that_begins_with_a_digit(self):
        for text in ("0", "9a", "a 1b", "a(0)", "12"):
            self.refuses(text)

    def test_leaf_of_no_bytes(self):
        self.refuses("''")
        self.refuses("a('')")
        self.refuses("'x' ''")

    def test_leaf_lengths(self):
        self.reads("'x'", 1)
        self.reads("'" + "x" * 199 + "'", 1)
        self.reads("'" + "x" * 200 + "'", 1)
        self.refuses("'" + "x" * 201 + "'")

    def test_leaf_length_counts_what_is_told(self):
        self.reads("'" + "\\'" * 200 + "'", 1)
        self.reads("'" + "\\\\" * 200 + "'", 1)
        self.refuses("'" + "\\'" * 201 + "'")
        self.refuses("'" + "\\\\" * 200 + "x'")

    def test_quote_and_backslash_in_a_leaf(self):
        self.reads("'\\''", 1)
        self.reads("'\\\\'", 1)
        self.reads("'\\\\\\''", 1)
        self.reads("'a\\\\' 'b\\'c'", 2)
        self.reads("'\\\\'a", 2, "'\\\\' a")

    def test_every_other_byte_in_a_leaf_is_itself(self):
        plain = "".join(chr(byte) for byte in range(32, 127) if chr(byte) not in "'\\")
        self.reads("'" + plain + "'", 1)
        self.reads("' '", 1)
        self.reads("'  (a)  '", 1)

    def test_another_byte_behind_the_backslash(self):
        for byte in range(256):
            if byte not in (39, 92):
                self.refuses([39, 120, 92, byte, 120, 39])

    def test_bytes_outside_a_leaf_text(self):
        for byte in list(range(0, 32)) + list(range(127, 256)):
            self.refuses([39, 120, byte, 120, 39])
            self.refuses([39, byte, 39])

    def test_leaf_without_end(self):
        for text in ("'", "'x", "a('x)", "'x\\'", "'x\\", "'x' '", "'\\\\\\'", "'x''"):
            self.refuses(text)

    def test_parentheses(self):
        self.reads("a()", 1, "a")
        self.reads("a( \n )", 1, "a")
        self.reads("a(b() c( ))", 3, "a(b c)")
        for text in ("(", ")", "()", "(a)", "a(", "a)", "a(b", "a(b))", "a((b))", "a(b)(c)", "a()()", "'x'(a)",
                     "'x'()", "a(()", "a(b))(", ")a(", "a('x'(b))", "a (b) ) c", "a(b()"):
            self.refuses(text)

    def test_depth_of_40_and_41(self):
        for inmost in ("a", "'x'"):
            self.reads("b(" * 39 + inmost + ")" * 39, 40)
            self.refuses("b(" * 40 + inmost + ")" * 40)
        self.reads("b(" * 39 + "a()" + ")" * 39, 40, "b(" * 39 + "a" + ")" * 39)
        self.refuses("b c(" + "d(" * 39 + "e) f" + ")" * 39)

    def test_nesting_far_too_deep(self):
        self.refuses("a(" * 2500 + "b" + ")" * 2500)
        self.refuses("a(" * 2500)
        self.refuses("(" * 5000)
        self.refuses("a" + ")" * 5000)

    def test_node_counts(self):
        self.reads(" ".join(["a"] * 199), 199)
        self.reads(" ".join(["a"] * 200), 200)
        self.refuses(" ".join(["a"] * 201), TOO_MANY)
        self.refuses(" ".join(["a"] * 2000), TOO_MANY)
        self.refuses(" ".join(["a"] * 2001))

    def test_node_counts_of_nested_nodes(self):
        self.reads("a('x')" * 100, 200, " ".join(["a('x')"] * 100))
        self.refuses("a('x')" * 100 + "'y'", TOO_MANY)
        self.refuses("a(b)" * 1000, TOO_MANY)
        self.refuses("a(b)" * 1000 + "a")
        self.refuses("a(" + "b " * 200 + ")", TOO_MANY)
        self.refuses("a(" + "b " * 2000 + ")")

    def test_no_hedge_comes_before_too_many_nodes(self):
        many = " ".join(["a"] * 300)
        for fault in ("0", "''", "(", ")", "'", "abcdefghijklm", "'" + "x" * 201 + "'", "b(" * 40 + "a" + ")" * 40):
            self.refuses(many + " " + fault)
            self.refuses(fault + " " + many)


if __name__ == "__main__":
    unittest.main()
