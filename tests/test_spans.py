"""[B1], [B2], [B3]: what can be derived from messages, and how."""

import itertools
import random
import unittest

from allknow.spans import (BadParity, assignments, basis, combination, is_derived, is_equivalent, message_rank,
                           odd_ones, redundant, separating)
from tests import reference

TRIANGLE = ("ab", "bc", "ac")

# A letter twice, out of order, behind h, capitals, spaces, digits and other signs.
NO_PARITIES = ("aa", "abb", "aba", "ba", "acb", "hg", "i", "abi", "z", "A", "aB", "H", " ", "a ", " a", "a b",
               "0", "1", "a1", "a,b", "a\n", "\n", "\u00e4", "a\u0301", "`", "abcdefghi", "abcdefghh", "-")


def some_messages(chance, letters, most):
    """Any parities of these letters, some of them empty or there twice."""
    row = []
    for _ in range(chance.randint(0, most)):
        size = chance.randint(0, len(letters))
        row.append("".join(sorted(chance.sample(letters, size))))
    if row and chance.random() < 0.3:
        row.insert(chance.randrange(len(row) + 1), chance.choice(row))
    return tuple(row)


def many_messages(count, seed, letters="abcd", most=5):
    chance = random.Random(seed)
    return [some_messages(chance, letters, most) for _ in range(count)]


class Examples(unittest.TestCase):
    def test_the_examples_of_the_document(self):
        self.assertEqual(basis(TRIANGLE), (0, 1))
        self.assertEqual(combination(TRIANGLE, "ac"), (2,))
        self.assertEqual(combination(("ab", "bc"), "ac"), (0, 1))
        self.assertEqual(separating(3, TRIANGLE, "a"), "abc")
        self.assertEqual(redundant(TRIANGLE), (0, 1, 2))
        self.assertEqual(assignments(3, TRIANGLE, (True, True, False)), (2, "b"))

    def test_the_others_for_the_same_messages(self):
        self.assertEqual(message_rank(TRIANGLE), 2)
        self.assertIs(is_derived(("ab", "bc"), "ac"), True)
        self.assertIs(is_derived(TRIANGLE, "a"), False)
        self.assertIs(is_equivalent(TRIANGLE, ("ab", "ac")), True)
        self.assertIs(is_equivalent(TRIANGLE, ("ab",)), False)
        self.assertEqual(odd_ones(TRIANGLE, "b"), (True, True, False))


class Edges(unittest.TestCase):
    def test_no_messages(self):
        self.assertEqual(message_rank(()), 0)
        self.assertIs(is_derived((), ""), True)
        self.assertIs(is_derived((), "a"), False)
        self.assertEqual(basis(()), ())
        self.assertEqual(combination((), ""), ())
        self.assertIsNone(combination((), "h"))
        self.assertIsNone(separating(3, (), ""))
        self.assertEqual(separating(3, (), "c"), "c")
        self.assertEqual(redundant(()), ())
        self.assertIs(is_equivalent((), ()), True)
        self.assertIs(is_equivalent((), ("a",)), False)
        self.assertEqual(odd_ones((), "ab"), ())
        self.assertEqual(assignments(3, (), ()), (8, ""))

    def test_the_empty_parity_alone(self):
        self.assertEqual(message_rank(("",)), 0)
        self.assertIs(is_derived(("",), ""), True)
        self.assertIs(is_derived(("",), "a"), False)
        self.assertEqual(basis(("",)), ())
        self.assertEqual(combination(("",), ""), ())
        self.assertEqual(redundant(("",)), (0,))
        self.assertIs(is_equivalent(("",), ()), True)
        self.assertIs(is_equivalent((), ("",)), True)
        self.assertEqual(odd_ones(("",), "abcdefgh"), (False,))
        self.assertEqual(assignments(2, ("",), (False,)), (4, ""))
        self.assertEqual(assignments(2, ("",), (True,)), (0, None))
        self.assertEqual(separating(2, ("",), "b"), "b")

    def test_the_empty_parity_among_others_and_twice(self):
        self.assertEqual(message_rank(("", "a", "")), 1)
        self.assertEqual(basis(("", "a", "")), (1,))
        self.assertEqual(redundant(("", "a", "")), (0, 2))
        self.assertEqual(redundant(("", "")), (0, 1))
        self.assertEqual(combination(("", "a", "", "b"), "ab"), (1, 3))
        self.assertEqual(combination(("", "a", ""), ""), ())
        self.assertEqual(odd_ones(("", "a", ""), "a"), (False, True, False))
        self.assertEqual(assignments(1, ("", "a", ""), (False, True, False)), (1, "a"))
        self.assertEqual(assignments(1, ("", "a", ""), (False, True, True)), (0, None))

    def test_the_same_message_twice(self):
        self.assertEqual(message_rank(("ab", "ab")), 1)
        self.assertEqual(basis(("ab", "ab", "b")), (0, 2))
        self.assertEqual(combination(("ab", "ab"), "ab"), (0,))
        self.assertEqual(combination(("ab", "ab"), ""), ())
        self.assertEqual(redundant(("ab", "ab")), (0, 1))
        self.assertEqual(redundant(("ab", "ab", "b")), (0, 1))
        self.assertIs(is_equivalent(("ab", "ab"), ("ab",)), True)
        self.assertEqual(odd_ones(("ab", "ab"), "b"), (True, True))
        self.assertEqual(assignments(2, ("ab", "ab"), (True, True)), (2, "a"))
        self.assertEqual(assignments(2, ("ab", "ab"), (True, False)), (0, None))

    def test_the_empty_parity_can_always_be_derived(self):
        for messages in many_messages(20, 1):
            self.assertIs(is_derived(messages, ""), True)
            self.assertEqual(combination(messages, ""), ())
            self.assertIsNone(separating(4, messages, ""))

    def test_eight_variables(self):
        singles = tuple("abcdefgh")
        self.assertEqual(message_rank(singles), 8)
        self.assertEqual(basis(singles), (0, 1, 2, 3, 4, 5, 6, 7))
        self.assertEqual(combination(singles, "abcdefgh"), (0, 1, 2, 3, 4, 5, 6, 7))
        self.assertEqual(combination(singles, "h"), (7,))
        self.assertEqual(redundant(singles), ())
        self.assertEqual(separating(8, singles[:7], "abcdefgh"), "h")
        self.assertEqual(separating(8, ("ab", "bc", "cd", "de", "ef", "fg", "gh"), "a"), "abcdefgh")
        self.assertIsNone(separating(8, singles, "h"))
        self.assertEqual(odd_ones(singles, "ah"), (True,) + (False,) * 6 + (True,))
        self.assertEqual(assignments(8, (), ()), (256, ""))
        self.assertEqual(assignments(8, ("h",), (True,)), (128, "h"))
        self.assertEqual(assignments(8, singles, (True,) * 8), (1, "abcdefgh"))
        self.assertEqual(assignments(8, ("gh", "abcdefgh"), [True, True]), (64, "g"))
        self.assertIs(is_equivalent(singles, ("abcdefgh",) + singles[1:]), True)
        self.assertIs(is_equivalent(singles, ("abcdefgh",) + singles[2:]), False)
        chain = ("a", "ab", "bc", "cd", "de", "ef", "fg", "gh")
        self.assertEqual(combination(chain, "h"), (0, 1, 2, 3, 4, 5, 6, 7))
        self.assertEqual(combination(chain + ("h",), "h"), (8,))

    def test_no_variables(self):
        self.assertEqual(assignments(0, (), ()), (1, ""))
        self.assertEqual(assignments(0, ("", ""), (False, False)), (1, ""))
        self.assertEqual(assignments(0, ("a",), (False,)), (1, ""))
        self.assertEqual(assignments(0, ("a",), (True,)), (0, None))
        self.assertIsNone(separating(0, (), ""))
        self.assertIsNone(separating(0, (), "a"))

    def test_more_variables_than_letters(self):
        self.assertEqual(assignments(9, (), ()), (512, ""))
        self.assertEqual(assignments(10, ("h", "abh"), (True, False)), (256, "ah"))
        self.assertEqual(assignments(9, ("h", "h"), (True, False)), (0, None))
        self.assertEqual(separating(9, ("ab", "bh"), "h"), "abh")

    def test_letters_behind_the_variables(self):
        self.assertIsNone(separating(2, (), "c"))
        self.assertIsNone(separating(2, ("a",), "ac"))
        self.assertEqual(separating(2, ("c",), "ac"), "a")
        self.assertEqual(separating(2, ("ah",), "bh"), "b")
        self.assertEqual(separating(3, ("ac",), "c"), "ac")
        self.assertIsNone(separating(2, ("ac",), "ad"))
        self.assertEqual(assignments(2, ("c",), (False,)), (4, ""))
        self.assertEqual(assignments(2, ("c",), (True,)), (0, None))
        self.assertEqual(assignments(2, ("ac",), (True,)), (2, "a"))
        self.assertEqual(assignments(2, ("ac", "ah"), (True, True)), (2, "a"))
        self.assertEqual(assignments(2, ("ac", "ah"), (True, False)), (0, None))
        self.assertEqual(assignments(7, ("h", "g"), (False, True)), (64, "g"))

    def test_a_told_row_that_no_assignment_gives(self):
        self.assertEqual(assignments(3, TRIANGLE, (True, True, True)), (0, None))
        self.assertEqual(assignments(3, TRIANGLE, [True, False, False]), (0, None))
        self.assertEqual(assignments(3, TRIANGLE, [False, False, False]), (2, ""))

    def test_assignments_come_in_the_order_of_the_document(self):
        order = ("", "a", "b", "ab", "c", "ac", "bc", "abc")
        for number, first in enumerate(order):
            told = tuple(letter in first for letter in "abc")
            self.assertEqual(assignments(3, tuple("abc"), told), (1, first))
            self.assertEqual(separating(3, (), first or "a"), (first or "a")[0])
        self.assertEqual(reference.parities("abc"), list(order))
        # The last letter in which two differ decides, not their length and not the first letter.
        self.assertEqual(assignments(3, ("abc",), (False,)), (4, ""))
        self.assertEqual(assignments(3, ("abc", "ac"), (False, True)), (2, "ab"))
        self.assertEqual(assignments(3, ("a", "bc"), (False, True)), (2, "b"))
        self.assertEqual(separating(4, ("abd", "ac"), "d"), "bd")
        self.assertEqual(separating(3, ("ab",), "ac"), "ab")

    def test_the_first_of_several_fewest_combinations(self):
        self.assertEqual(combination(("a", "b", "ac", "bc"), "ab"), (0, 1))
        self.assertEqual(combination(("ac", "bc", "a", "b"), "ab"), (0, 1))
        self.assertEqual(combination(("ac", "a", "b", "bc"), "ab"), (0, 3))
        self.assertEqual(combination(("a", "ac", "bc", "b"), "ab"), (0, 3))
        self.assertEqual(combination(("a", "ac", "ac", "bc", "bc"), "ab"), (1, 3))
        self.assertEqual(combination(("a", "b", "c", "ab", "abc"), "abc"), (4,))
        self.assertEqual(combination(("a", "b", "c", "bc", "ab"), "abc"), (0, 3))
        self.assertEqual(combination(("d", "a", "b", "c", "abcd"), "abc"), (0, 4))
        self.assertEqual(combination(("b", "ab", "ac", "c", "a"), "bc"), (0, 3))


class TryingEverything(unittest.TestCase):
    def test_what_can_be_derived(self):
        for messages in many_messages(60, 2):
            for parity in reference.parities("abcd"):
                with self.subTest(messages=messages, parity=parity):
                    expected = parity in reference.sums(messages)
                    self.assertIs(is_derived(messages, parity), expected)
                    self.assertEqual(combination(messages, parity), reference.first_fewest(messages, parity))
                    self.assertEqual(combination(messages, parity) is not None, expected)

    def test_it_is_so_exactly_if_no_two_assignments_differ(self):
        for messages in many_messages(15, 3, "abc", 3):
            every = reference.parities("abc")
            for parity in every:
                told = {}
                for assignment in every:
                    told.setdefault(odd_ones(messages, assignment), set()).add(
                        odd_ones((parity,), assignment))
                differing = [values for values in told.values() if len(values) > 1]
                with self.subTest(messages=messages, parity=parity):
                    self.assertIs(is_derived(messages, parity), not differing)
                    self.assertEqual(separating(3, messages, parity) is None, not differing)

    def test_longer_rows_of_messages(self):
        for messages in many_messages(12, 4, "abcdefgh", 9):
            for parity in many_messages(1, len(messages), "abcdefgh", 4)[0] + ("h", "abcdefgh"):
                with self.subTest(messages=messages, parity=parity):
                    self.assertEqual(combination(messages, parity), reference.first_fewest(messages, parity))
                    self.assertIs(is_derived(messages, parity), parity in reference.sums(messages))

    def test_rank_and_basis(self):
        for messages in many_messages(100, 5) + many_messages(30, 6, "abcdefgh", 10):
            with self.subTest(messages=messages):
                self.assertEqual(message_rank(messages), reference.rank(messages))
                indices = basis(messages)
                self.assertEqual(tuple(messages[index] for index in indices), reference.basis_texts(messages))
                self.assertEqual(list(indices), sorted(set(indices)))
                self.assertEqual(len(indices), message_rank(messages))

    def test_of_the_same_messages_the_first_one_is_in_the_basis(self):
        for messages in many_messages(60, 7, "ab", 6):
            expected = tuple(at for at, text in enumerate(messages)
                             if text not in reference.sums(messages[:at]))
            with self.subTest(messages=messages):
                self.assertEqual(basis(messages), expected)

    def test_redundant(self):
        for messages in many_messages(100, 8) + many_messages(30, 9, "abcdefgh", 10):
            expected = tuple(at for at, text in enumerate(messages)
                             if text in reference.sums(messages[:at] + messages[at + 1:]))
            with self.subTest(messages=messages):
                self.assertEqual(redundant(messages), expected)

    def test_is_equivalent(self):
        rows = many_messages(40, 10, "abc", 4)
        for first, second in itertools.product(rows, rows):
            with self.subTest(first=first, second=second):
                self.assertIs(is_equivalent(first, second), reference.sums(first) == reference.sums(second))

    def test_is_equivalent_asks_both_ways(self):
        self.assertIs(is_equivalent(("a", "b"), ("a",)), False)
        self.assertIs(is_equivalent(("a",), ("a", "b")), False)
        self.assertIs(is_equivalent(("a",), ("b",)), False)
        self.assertIs(is_equivalent(("a", "b"), ("b", "c")), False)
        self.assertIs(is_equivalent(("a", "b", "ab"), ["b", "ab"]), True)

    def test_odd_ones(self):
        for messages in many_messages(30, 11):
            for assignment in reference.parities("abcde"):
                expected = tuple(reference.is_odd(text, assignment) for text in messages)
                with self.subTest(messages=messages, assignment=assignment):
                    self.assertEqual(odd_ones(messages, assignment), expected)

    def test_assignments(self):
        for messages in many_messages(40, 12, "abcd", 4):
            for variables in range(6):
                every = reference.parities("abcdefgh"[:variables])
                for told in itertools.product((True, False), repeat=len(messages)):
                    good = [one for one in every
                            if all(reference.is_odd(text, one) == value for text, value in zip(messages, told))]
                    with self.subTest(messages=messages, variables=variables, told=told):
                        self.assertEqual(assignments(variables, messages, told),
                                         (len(good), good[0] if good else None))

    def test_separating(self):
        for messages in many_messages(40, 13, "abcd", 4):
            for variables in range(6):
                for parity in reference.parities("abcd"):
                    good = [one for one in reference.parities("abcdefgh"[:variables])
                            if reference.is_odd(parity, one)
                            and not any(reference.is_odd(text, one) for text in messages)]
                    with self.subTest(messages=messages, variables=variables, parity=parity):
                        self.assertEqual(separating(variables, messages, parity), good[0] if good else None)


class Forms(unittest.TestCase):
    def test_lists_stand_for_tuples(self):
        messages = list(TRIANGLE)
        self.assertEqual(message_rank(messages), 2)
        self.assertIs(is_derived(messages, "ac"), True)
        self.assertEqual(basis(messages), (0, 1))
        self.assertEqual(combination(messages, "bc"), (1,))
        self.assertEqual(separating(3, messages, "a"), "abc")
        self.assertEqual(redundant(messages), (0, 1, 2))
        self.assertIs(is_equivalent(messages, TRIANGLE), True)
        self.assertIs(is_equivalent(TRIANGLE, messages), True)
        self.assertEqual(odd_ones(messages, "a"), (True, False, True))
        self.assertEqual(assignments(3, messages, [True, True, False]), (2, "b"))
        self.assertEqual(assignments(3, TRIANGLE, [True, True, False]), (2, "b"))

    def test_truth_values_are_true_and_false(self):
        self.assertIs(is_derived(("a",), "a"), True)
        self.assertIs(is_equivalent(("a",), ["a"]), True)
        for value in odd_ones(("a", "b", ""), "a"):
            self.assertIs(type(value), bool)


class Wrong(unittest.TestCase):
    def calls(self, messages, parity):
        """Each function with these messages and, where it takes one, this parity."""
        told = (False,) * len(messages)
        return (
            (message_rank, (messages,)),
            (basis, (messages,)),
            (redundant, (messages,)),
            (is_equivalent, (messages, ("a",))),
            (is_equivalent, (messages, (parity,))),
            (is_derived, (messages, parity)),
            (combination, (messages, parity)),
            (separating, (3, messages, parity)),
            (odd_ones, (messages, parity)),
            (assignments, (3, messages, told)),
        )

    def check(self, function, arguments, text):
        with self.subTest(function=function.__name__, arguments=arguments):
            with self.assertRaises(BadParity) as caught:
                function(*arguments)
            self.assertEqual(caught.exception.text, text)

    def test_a_message_that_is_no_parity(self):
        for text in NO_PARITIES:
            for messages in ((text,), ("a", text), [text, "b"], ("", "ab", text, "h")):
                for function, arguments in self.calls(messages, "a"):
                    self.check(function, arguments, text)

    def test_a_parity_that_is_none(self):
        for text in NO_PARITIES:
            for messages in ((), ("a",), ["a", "a", ""]):
                for function in (is_derived, combination, odd_ones):
                    self.check(function, (messages, text), text)
                self.check(separating, (2, messages, text), text)
                self.check(is_equivalent, (messages, [text]), text)
                self.check(is_equivalent, (messages, ("a", text)), text)

    def test_the_first_of_several_of_the_messages_first(self):
        for function, arguments in self.calls(("a", "ba", "i", "cb"), "A"):
            self.check(function, arguments, "ba")
        for function, arguments in self.calls(["i", "a", "ba"], "ba"):
            self.check(function, arguments, "i")
        self.check(is_equivalent, (("a", "b"), ("a", "A", "ba")), "A")
        self.check(is_equivalent, (("x", "b"), ("A", "ba")), "x")

    def test_it_is_raised_though_the_answer_would_be_clear(self):
        self.check(assignments, (2, ("a", "a", "ba"), (True, False, True)), "ba")
        self.check(assignments, (0, ("ba",), (False,)), "ba")
        self.check(separating, (0, (), "i"), "i")
        self.check(combination, (("a", "i"), "a"), "i")
        self.check(is_derived, (("a", "i"), "a"), "i")
        self.check(is_equivalent, ((), ("", "i")), "i")

    def test_the_letters_a_to_h_are_none_however_many_variables_there_are(self):
        for variables in (0, 1, 8):
            self.check(separating, (variables, ("i",), "a"), "i")
            self.check(separating, (variables, ("h",), "i"), "i")
            self.check(assignments, (variables, ("i",), (True,)), "i")
        self.assertIsNone(separating(1, ("h",), "gh"))
        self.assertEqual(assignments(0, ("h",), (False,)), (1, ""))

    def test_all_parities_of_these_letters_are_taken(self):
        every = tuple(reference.parities("abcdefgh"))
        self.assertEqual(message_rank(every), 8)
        for parity in every:
            self.assertEqual(combination(tuple("abcdefgh"), parity),
                             tuple("abcdefgh".index(letter) for letter in parity))


if __name__ == "__main__":
    unittest.main()
