"""What the calls set and answer, and what they refuse: promises 1, 2, 3, 4, 5 and 10, and the list of calls."""

import unittest

from calling import as_bytes, ask, base, conflicts, did, distances, fate, form, line, merge, settle, take, three
from calling import told_conflicts, told_form, told_merge, version
from hedgemerge.desk import answers

NO_VERSIONS = (0, -1, 3, 4, -2, 10 ** 18, -10 ** 18)
MANY = " ".join(["a"] * 201)


ALL_TEN = three("a(b 'x' c)", "a(b 'y')", "d(b 'z' c e)") + [
    merge(1), merge(1), conflicts(), form(1), did(1), did(2), fate(1, [0, 2]), fate(2, [0, 1]), fate(2, [0] * 100),
    distances(), take(2, 1), distances(), base("("), take(0, 1), settle(2), version(1, "a"), merge(2), did(1)]


def counted(text):
    return [len(text)] + as_bytes(text)


class Beginning(unittest.TestCase):

    def test_a_new_object_is_empty(self):
        asked = [form(0), form(1), form(2), merge(1), merge(2), conflicts(), settle(1), settle(2)]
        self.assertEqual(ask(asked), [[0], [0], [0], [0, 0], [0, 0], [0], [0], [0]])

    def test_the_list_of_answers(self):
        calls = line([base("a('x')"), form(1), merge(3), merge(1), conflicts(), base("(")])
        self.assertEqual(answers(calls), [1, 2, 7, 6] + as_bytes("a('x')") + [1, -2] + [8, 0, 6]
                         + as_bytes("a('x')") + [1, 0, 1, -1])

    def test_conflicts_in_the_list_of_answers(self):
        calls = line(three("a(b 'x' c)", "a(b 'y')", "d(b 'z' c e)") + [conflicts()])
        self.assertEqual(answers(calls), [1, 4, 1, 3, 1, 5, 5, 1, 3, 2, 0, 1])

    def test_the_calls_5_to_9_in_the_lists(self):
        text = as_bytes("a(b)")
        calls = [0, 4] + text + [1, 2, 4, 97, 32, 99, 100] + [5, 2, 6, 2, 2, 0, 0, 6, 1, 0, 6, 0, 1, 5, 7, 8, 1, 2, 9, 1]
        self.assertEqual(answers(calls), [1, 2, 1, 2] + [5, 1, 1, 0, 1, 0] + [3, 0, 0, 0] + [1, -4] + [1, -2]
                         + [3, 0, 2, 2] + [1, 2] + [1, 2])


class Setting(unittest.TestCase):

    def test_base_sets_all_three(self):
        calls = three("a", "b", "c") + [base("d(e)")]
        self.assertEqual(ask(calls)[-1], [2])
        for number in (0, 1, 2):
            self.assertEqual(told_form(calls, number), "d(e)")
        self.assertEqual(told_merge(calls, 1), (0, "d(e)"))

    def test_version_sets_one(self):
        for number in (1, 2):
            calls = three("a", "b", "c") + [version(number, "d(e f)")]
            self.assertEqual(ask(calls)[-1], [3])
            expected = ["a", "b", "c"]
            expected[number] = "d(e f)"
            self.assertEqual([told_form(calls, which) for which in (0, 1, 2)], expected)

    def test_version_after_a_merge_counts(self):
        calls = three("a b", "a", "a b") + [merge(1), conflicts(), version(1, "b"), version(2, "a b c")]
        self.assertEqual(told_merge(calls, 1), (0, "b c"))
        calls = calls + [base("k"), version(2, "l")]
        self.assertEqual(told_merge(calls, 1), (0, "l"))

    def test_empty_texts(self):
        calls = three("a", "b", "c") + [version(1, ""), version(2, " \n")]
        self.assertEqual(ask(calls)[-2:], [[0], [0]])
        self.assertEqual(told_merge(calls, 1), (0, ""))
        self.assertEqual(ask(calls + [base("")])[-1], [0])


class Refusals(unittest.TestCase):

    def stays(self, call, refusal):
        """The call is refused, and everything is as it was: the calls behind it are answered as without it."""
        before = three("a(b 'x' c)", "a(b 'y')", "d(b 'z' c e)")
        behind = [form(0), form(1), form(2), merge(1), merge(2), conflicts(), did(1), did(2), fate(1, [0, 1]),
                  fate(2, [0, 2]), distances(), take(2, 1), distances(), settle(2), form(0)]
        for asked in ([], [merge(1)], [did(2), distances()]):
            plain = ask(before + asked + behind)
            refused = ask(before + asked + [call] + behind)
            place = len(before + asked)
            self.assertEqual(refused[place], [refusal], call)
            self.assertEqual(refused[:place] + refused[place + 1:], plain, call)

    def test_base(self):
        self.stays(base("a("), -1)
        self.stays(base(MANY), -5)

    def test_version(self):
        for number in (1, 2):
            self.stays(version(number, "a("), -1)
            self.stays(version(number, MANY), -5)
        for number in NO_VERSIONS:
            self.stays(version(number, "a"), -2)

    def test_version_number_comes_before_the_hedge(self):
        for number in NO_VERSIONS:
            self.stays(version(number, "a("), -2)
            self.stays(version(number, MANY), -2)
            self.stays(version(number, ""), -2)

    def test_form(self):
        for number in NO_VERSIONS[1:]:
            self.stays(form(number), -2)

    def test_merge(self):
        for number in NO_VERSIONS:
            self.stays(merge(number), -2)

    def test_did(self):
        for number in NO_VERSIONS:
            self.stays(did(number), -2)

    def test_fate(self):
        for number in NO_VERSIONS:
            self.stays(fate(number, [0]), -2)
        for path in ([], [1], [-1], [0, 3], [0, 1, 0], [10 ** 18], [0] * 100):
            self.stays(fate(1, path), -4)
            self.stays(fate(2, path), -4)

    def test_take(self):
        for number in NO_VERSIONS:
            self.stays(take(number, 1), -2)
            self.stays(take(2, number), -2)

    def test_settle(self):
        for number in NO_VERSIONS:
            self.stays(settle(number), -2)


class Settling(unittest.TestCase):

    def test_settle_sets_all_three(self):
        for number, outcome in ((1, "d(b 'y' e)"), (2, "d(b 'z' e)")):
            calls = three("a(b 'x' c)", "a(b 'y')", "d(b 'z' c e)") + [settle(number)]
            self.assertEqual(ask(calls)[-1], [4])
            for which in (0, 1, 2):
                self.assertEqual(told_form(calls, which), outcome)
            self.assertEqual(told_merge(calls, 1), (0, outcome))
            self.assertEqual(told_conflicts(calls), [])

    def test_work_goes_on_from_there(self):
        calls = three("a", "a b", "a c") + [settle(2), version(1, "a c"), version(2, "a c b d")]
        self.assertEqual(told_merge(calls, 1), (0, "a c d"))

    def test_settle_again_changes_nothing(self):
        calls = three("a", "a b", "a c") + [settle(1), settle(2), settle(1)]
        self.assertEqual(ask(calls)[-3:], [[3], [3], [3]])
        self.assertEqual(told_form(calls, 0), "a b c")

    def test_outcome_of_200_nodes(self):
        calls = three("", "a " * 100, "b " * 100) + [settle(2)]
        self.assertEqual(ask(calls)[-1], [200])
        self.assertEqual(told_form(calls, 1), " ".join(["b"] * 100 + ["a"] * 100))

    def test_outcome_of_201_nodes(self):
        before = three("", "a " * 100, "b " * 100 + "'x'")
        for number in (1, 2):
            answered = ask(before + [settle(number), form(0), form(1), form(2), merge(1)])
            self.assertEqual(answered[3], [-5])
            self.assertEqual(answered[4:], ask(before + [form(0), form(1), form(2), merge(1)])[3:])
            self.assertEqual(answered[4], [0])

    def test_nested_nodes_count(self):
        calls = three("k", "k(" + "a " * 150 + ")", "k(" + "b " * 50 + ")")
        self.assertEqual(ask(calls + [settle(1)])[-1], [-5])

    def test_version_number_comes_before_the_size(self):
        calls = three("", "a " * 150, "b " * 150)
        for number in NO_VERSIONS:
            self.assertEqual(ask(calls + [settle(number)])[-1], [-2])


class OnlyRead(list):
    """A list that fails where it is changed."""

    def fail(self, *arguments):
        raise AssertionError("the list handed in is changed")

    append = clear = extend = insert = pop = remove = reverse = sort = fail
    __setitem__ = __delitem__ = __iadd__ = __imul__ = fail


class HandedIn(unittest.TestCase):

    def test_the_list_stays_and_asking_twice_is_the_same(self):
        calls = line(ALL_TEN)
        kept = list(calls)
        first = answers(calls)
        self.assertEqual(calls, kept)
        self.assertEqual(answers(calls), first)
        self.assertEqual(calls, kept)
        self.assertEqual(answers(line([form(0), form(1), form(2), distances()])), [1, 0, 1, 0, 1, 0, 3, 0, 0, 0])

    def test_the_list_is_not_changed_for_a_while_either(self):
        calls = line(ALL_TEN)
        self.assertEqual(answers(OnlyRead(calls)), answers(calls))

    def test_what_is_given_back_is_the_askers_own(self):
        calls = line(ALL_TEN)
        first = answers(calls)
        kept = list(first)
        first.clear()
        self.assertEqual(answers(calls), kept)

    def test_whole_numbers_are_given_back(self):
        given = answers(line(ALL_TEN))
        self.assertEqual(type(given), list)
        self.assertEqual({type(number) for number in given}, {int})

    def test_asking_does_not_change_the_answers(self):
        calls = three("a(b 'x' c)", "a(b 'y')", "d(b 'z' c e)")
        asked = [form(0), merge(1), conflicts(), form(1), merge(2), form(2), did(1), fate(2, [0, 1]), distances(),
                 did(2), fate(1, [0, 2])]
        twice = ask(calls + asked + asked)[3:]
        self.assertEqual(twice[:11], twice[11:])


if __name__ == "__main__":
    unittest.main()
