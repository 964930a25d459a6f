"""The outcome taken over by a version, or by all three: promises 9 and 10."""

import unittest

from calling import ask, ask_last, as_bytes, base, conflicts, did, distances, fate, form, merge, settle, take, three
from calling import told_conflicts, told_form, told_merge, version

NO_VERSIONS = (0, 3, -1, -2, 4, 10 ** 18, -10 ** 18)
EXAMPLE = three("a(b 'x' c)", "a(b 'y')", "d(b 'z' c e)")
OUTCOMES = {1: "d(b 'y' e)", 2: "d(b 'z' e)"}
EVERYTHING = [form(0), form(1), form(2), merge(1), merge(2), conflicts(), did(1), did(2), fate(1, [0]), fate(2, [0]),
              distances()]


def forms(calls):
    return [told_form(calls, which) for which in (0, 1, 2)]


class Taking(unittest.TestCase):

    def test_every_version_from_every_version(self):
        for taker in (1, 2):
            for number in (1, 2):
                calls = EXAMPLE + [take(taker, number)]
                self.assertEqual(ask_last(calls), [4])
                expected = ["a(b 'x' c)", "a(b 'y')", "d(b 'z' c e)"]
                expected[taker] = OUTCOMES[number]
                self.assertEqual(forms(calls), expected)

    def test_a_new_object(self):
        self.assertEqual(ask([take(1, 1), take(1, 2), take(2, 1), take(2, 2)]), [[0]] * 4)

    def test_an_empty_outcome(self):
        calls = three("a(b) 'x'", "", "a(b) 'x'") + [take(2, 2)]
        self.assertEqual(ask_last(calls), [0])
        self.assertEqual(forms(calls), ["a(b) 'x'", "", ""])

    def test_nothing_done_by_the_other(self):
        calls = three("a b", "a b", "k(l)") + [take(1, 1)]
        self.assertEqual(forms(calls), ["a b", "k(l)", "k(l)"])

    def test_what_the_other_calls_answer_after_it(self):
        # By its new script, version 1 did not drop c but named it e.
        calls = EXAMPLE + [take(1, 1)]
        self.assertEqual(told_merge(calls, 1), (1, "d(b 'y' e e)"))
        self.assertEqual(told_merge(calls, 2), (1, "d(b 'z' e e)"))
        self.assertEqual(told_conflicts(calls), [(3, [0, 1])])
        asked = [did(1), did(2), fate(1, [0]), fate(1, [0, 1]), fate(1, [0, 2]), fate(2, [0, 2]), distances()]
        self.assertEqual(ask(calls + asked)[4:], [[0, 0, 3, 4, 1], [1, 0, 2, 4, 2], [2, 1, 0], [2, 1, 0], [2, 1, 0],
                                                  [1, 0, 0], [3, 3, 2]])

    def test_what_the_other_calls_answer_if_version_2_takes(self):
        calls = EXAMPLE + EVERYTHING + [take(2, 1)]
        self.assertEqual(told_merge(calls, 1), (1, "d(b 'y')"))
        self.assertEqual(told_merge(calls, 2), (1, "d(b 'y' e)"))
        self.assertEqual(told_conflicts(calls), [(2, [0, 2])])
        asked = [did(1), did(2), fate(1, [0]), fate(2, [0]), fate(2, [0, 2]), distances()]
        self.assertEqual(ask(calls + asked)[len(calls):], [[0, 1, 1, 3, 1], [0, 0, 3, 4, 1], [2, 0, 0], [2, 1, 0],
                                                           [2, 1, 0], [2, 3, 2]])

    def test_asked_before_or_not_it_is_the_same(self):
        for taker in (1, 2):
            for number in (1, 2):
                asked = ask(EXAMPLE + EVERYTHING + [take(taker, number)] + EVERYTHING)
                plain = ask(EXAMPLE + [take(taker, number)] + EVERYTHING)
                self.assertEqual(asked[3 + len(EVERYTHING):], plain[3:])

    def test_it_is_as_if_the_version_were_set(self):
        for taker in (1, 2):
            for number in (1, 2):
                taken = ask(EXAMPLE + [take(taker, number)] + EVERYTHING)
                written = ask(EXAMPLE + [version(taker, OUTCOMES[number])] + EVERYTHING)
                self.assertEqual(taken, written)

    def test_taken_again_what_both_put_is_put_again(self):
        calls = three("", "a", "b") + [take(1, 1), take(1, 2), take(2, 1)]
        self.assertEqual(ask(calls)[3:], [[2], [3], [4]])
        self.assertEqual(forms(calls), ["", "b a b", "b a b b"])

    def test_both_take_in_turn(self):
        calls = three("k", "k a", "k b") + [take(1, 1), take(2, 2), merge(1)]
        self.assertEqual(forms(calls), ["k", "k a b", "k b a b"])
        self.assertEqual(told_merge(calls, 1), (1, "k a b b a b"))

    def test_work_goes_on_from_there(self):
        calls = three("a b", "a b c", "a d") + [take(1, 2), version(2, "a b"), settle(1), version(1, "e")]
        self.assertEqual(forms(calls), ["a d c", "e", "a d c"])


class Sizes(unittest.TestCase):

    def test_an_outcome_of_200_nodes(self):
        calls = three("", "a " * 100, "b " * 100)
        for taker in (1, 2):
            self.assertEqual(ask_last(calls + [take(taker, 2)]), [200])
            expected = ["", " ".join(["a"] * 100), " ".join(["b"] * 100)]
            expected[taker] = expected[2] + " " + expected[1]
            self.assertEqual(forms(calls + [take(taker, 2)]), expected)
        self.assertEqual(ask_last(calls + [settle(1)]), [200])

    def test_an_outcome_of_201_nodes(self):
        for before in (three("", "a " * 100, "b " * 100 + "'x'"), three("m", "m(" + "a " * 99 + ")", "m b " + "c " * 100)):
            plain = ask(before + EVERYTHING)[3:]
            for call in (take(1, 1), take(1, 2), take(2, 1), take(2, 2), settle(1), settle(2)):
                found = ask(before + [call] + EVERYTHING)[3:]
                self.assertEqual(found[0], [-5], call)
                self.assertEqual(found[1:], plain)
                self.assertEqual(ask(before + EVERYTHING + [call] + EVERYTHING)[4 + len(EVERYTHING):], plain)

    def test_taken_until_it_is_too_large(self):
        calls = three("", "a(b) " * 98, "'x'") + [take(1, 1)] * 5 + [form(2), settle(1), version(2, ""), settle(1)]
        self.assertEqual(ask(calls)[3:], [[197], [198], [199], [200], [-5], [3] + as_bytes("'x'"), [-5], [0], [200]])


class Refusals(unittest.TestCase):

    def stays(self, before, call, refusal):
        plain = ask(before + EVERYTHING)
        found = ask(before + [call] + EVERYTHING)
        self.assertEqual(found[len(before)], [refusal], call)
        self.assertEqual(found[:len(before)] + found[len(before) + 1:], plain, call)

    def test_no_version(self):
        for number in NO_VERSIONS:
            for fine in (1, 2):
                self.stays(EXAMPLE, take(number, fine), -2)
                self.stays(EXAMPLE, take(fine, number), -2)
            self.stays(EXAMPLE, take(number, number), -2)
            self.stays(EXAMPLE, settle(number), -2)

    def test_it_comes_before_the_size(self):
        before = three("", "a " * 150, "b " * 150)
        for number in NO_VERSIONS:
            for call in (take(number, 1), take(2, number), take(number, number), settle(number)):
                self.assertEqual(ask_last(before + [call]), [-2])


class Settling(unittest.TestCase):

    def test_all_three_are_the_outcome(self):
        for number in (1, 2):
            calls = EXAMPLE + EVERYTHING + [settle(number)]
            self.assertEqual(ask_last(calls), [4])
            self.assertEqual(forms(calls), [OUTCOMES[number]] * 3)
            self.assertEqual(ask(calls + EVERYTHING)[len(calls):], ask([base(OUTCOMES[number])] + EVERYTHING)[1:])

    def test_after_a_take(self):
        calls = EXAMPLE + [take(1, 1), settle(2)]
        self.assertEqual(forms(calls), ["d(b 'z' e e)"] * 3)
        asked = [did(1), fate(2, [0, 3]), fate(1, [0, 4]), distances(), conflicts()]
        self.assertEqual(ask(calls + asked)[5:], [[0, 0, 0, 5, 5], [1, 0, 0], [-4], [0, 0, 0], [0]])


if __name__ == "__main__":
    unittest.main()
