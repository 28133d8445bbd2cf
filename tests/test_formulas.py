"""[F1], [F2], [F3]: formulas, where their texts go wrong, and their normal texts."""

import itertools
import random
import unittest

from allknow import texts
from allknow.formulas import BadFormula, Formula, TooLong, TooManyInputs, normal_text
from tests import trees

SEVEN = "0^1^2^3^4^5^6"


def wrong_at(text):
    """The position at which a text goes wrong, None if it is a formula."""
    try:
        Formula(text)
    except BadFormula as error:
        return error.position
    return None


def shortest_formulas(longest):
    """All formulas with few signs and no more characters than that, put together from shorter ones."""
    found = {1: {"0", "1", "y"}, 2: {"10", "11"}}
    for length in range(1, longest + 1):
        texts_so_long = found.setdefault(length, set())
        texts_so_long |= {"!" + text for text in found.get(length - 1, ())}
        texts_so_long |= {"(" + text + ")" for text in found.get(length - 2, ())}
        for first in range(1, length - 1):
            for one, other in itertools.product(found[first], found[length - 1 - first]):
                texts_so_long.add(one + "&" + other)
    return {text for row in found.values() for text in row}


class Examples(unittest.TestCase):
    def test_the_examples_of_the_document(self):
        self.assertEqual(normal_text("0|1"), "0^0&1^1")
        self.assertEqual(normal_text("!(0&1)|0"), "y")
        self.assertEqual(wrong_at("00"), 1)


class Values(unittest.TestCase):
    def check(self, text, grouped):
        """A formula has the values of another one in all of whose places brackets stand."""
        tree = trees.tree_of(grouped)
        for bits in trees.all_bits(4):
            with self.subTest(text=text, bits=bits):
                self.assertIs(Formula(text).value(bits), trees.worth(tree, bits))

    def test_operands_alone(self):
        for bits in ((), (False,), (True,), (True, False), [False, True]):
            self.assertIs(Formula("y").value(bits), True)
            self.assertIs(Formula("n").value(bits), False)
            self.assertIs(Formula("!y").value(bits), False)
            self.assertIs(Formula("!n").value(bits), True)
            self.assertIs(Formula("0").value(bits), bool(bits) and bits[0])
            self.assertIs(Formula("1").value(bits), len(bits) > 1 and bits[1])

    def test_each_operator(self):
        for first, second in trees.all_bits(2):
            self.assertIs(Formula("0&1").value((first, second)), first and second)
            self.assertIs(Formula("0^1").value((first, second)), first != second)
            self.assertIs(Formula("0|1").value((first, second)), first or second)
            self.assertIs(Formula("!1").value((first, second)), not second)

    def test_each_pair_of_operators_beside_one_another(self):
        strength = "|^&"
        for first, second in itertools.product(strength, strength):
            if strength.index(first) >= strength.index(second):
                self.check(f"0{first}1{second}2", f"((0{first}1){second}2)")
            else:
                self.check(f"0{first}1{second}2", f"(0{first}(1{second}2))")
        for sign in strength:
            self.check(f"!0{sign}1", f"((!0){sign}1)")
            self.check(f"0{sign}!1", f"(0{sign}(!1))")
            self.check(f"!0{sign}!1", f"((!0){sign}(!1))")

    def test_three_operators(self):
        for signs in itertools.product("|^&", repeat=3):
            text = "0{}1{}2{}3".format(*signs)
            self.check(text, text)
            self.check("!" + text, "!" + text)
        self.check("0|1^2&!3", "(0|(1^(2&(!3))))")
        self.check("!0&1^2|3", "((((!0)&1)^2)|3)")
        self.check("0&1|2&3", "((0&1)|(2&3))")
        self.check("0|1&2|3", "((0|(1&2))|3)")
        self.check("0^1&2^3", "((0^(1&2))^3)")

    def test_brackets_that_are_needed(self):
        for first, second in itertools.product("|^&", "|^&"):
            self.check(f"(0{first}1){second}2", f"((0{first}1){second}2)")
            self.check(f"0{first}(1{second}2)", f"(0{first}(1{second}2))")
        for sign in "|^&":
            self.check(f"!(0{sign}1)", f"(!(0{sign}1))")
            self.check(f"!(0{sign}1)&2", f"((!(0{sign}1))&2)")

    def test_brackets_that_are_not(self):
        for text in ("(0)", "((0))", "(y)", "!(0)", "(!0)", "(0&1)&2", "(0&1)|2", "0|(1&2)", "((0)|((1)))", "(!(0))&1"):
            plain = text.replace("(", "").replace(")", "")
            for bits in trees.all_bits(3):
                self.assertIs(Formula(text).value(bits), Formula(plain).value(bits), text)

    def test_turned_about_twice(self):
        for bits in trees.all_bits(2):
            self.assertIs(Formula("!!0").value(bits), bits[0])
            self.assertIs(Formula("!!!0").value(bits), not bits[0])
            self.assertIs(Formula("!!(0|1)").value(bits), bits[0] or bits[1])
            self.assertIs(Formula("!(!0&!1)").value(bits), bits[0] or bits[1])
            self.assertIs(Formula("!!0&!!1").value(bits), bits[0] and bits[1])

    def test_indices_with_one_and_two_digits(self):
        bits = [False] * 100
        for index in (0, 1, 9, 10, 19, 90, 99):
            bits[index] = True
            self.assertIs(Formula(str(index)).value(bits), True)
            self.assertIs(Formula(f"!{index}").value(tuple(bits)), False)
            self.assertEqual(Formula(str(index)).indices(), (index,))
            bits[index] = False
            self.assertIs(Formula(str(index)).value(bits), False)

    def test_an_index_for_which_there_is_no_bit(self):
        self.assertIs(Formula("0").value(()), False)
        self.assertIs(Formula("!0").value([]), True)
        self.assertIs(Formula("99").value((True,) * 99), False)
        self.assertIs(Formula("99").value((True,) * 100), True)
        self.assertIs(Formula("0|5").value((True, True)), True)
        self.assertIs(Formula("0&5").value((True, True)), False)

    def test_values_against_going_through_a_tree(self):
        chance = random.Random(61)
        for text in trees.some_texts(400, chance):
            formula = Formula(text)
            tree = trees.tree_of(text)
            for bits in trees.all_bits(4) + trees.all_bits(2):
                with self.subTest(text=text, bits=bits):
                    self.assertIs(formula.value(bits), trees.worth(tree, bits))

    def test_many_brackets(self):
        for count in range(30):
            text = "(" * count + "0" + ")" * count
            self.assertIs(Formula(text).value((True,)), True)
            text = "!" * (2 * count + 1) + "0"
            self.assertIs(Formula(text).value((True,)), False)
        text = "!(" * 19 + "0|1" + ")" * 19
        self.assertIs(Formula(text).value((False, True)), False)

    def test_indices_and_text(self):
        for text, indices in (("y", ()), ("!n&y", ()), ("0", (0,)), ("9&10|9", (9, 10)), ("3^3", (3,)),
                              ("12|2|1", (1, 2, 12)), ("99&(0|!50)", (0, 50, 99)), (SEVEN, tuple(range(7)))):
            self.assertEqual(Formula(text).indices(), indices)
            self.assertEqual(Formula(text).text, text)


class WrongTexts(unittest.TestCase):
    def test_positions(self):
        for text, position in (
                ("", 0), (" ", 0), ("0 ", 1), (" 0", 0), ("0 &1", 1), ("0& 1", 2), ("01", 1), ("00", 1), ("000", 1),
                ("100", 2), ("1000", 2), ("0&00", 3), ("0&100", 4), ("999", 2), ("-1", 0), ("+1", 0), ("1.", 1),
                ("()", 1), ("(", 1), ("((", 2), ("(0", 2), ("((0)", 4), ("0)", 1), ("(0))", 3), (")", 0), ("(0)0", 3),
                ("(0)(1)", 3), ("0(", 1), ("0!", 1), ("!", 1), ("!!", 2), ("!)", 1), ("!&", 1), ("&", 0), ("&0", 0),
                ("0&", 2), ("0^", 2), ("0|", 2), ("0&&1", 2), ("0||1", 2), ("0&|1", 2), ("0!&1", 1), ("0&!", 3),
                ("yy", 1), ("yn", 1), ("y0", 1), ("0y", 1), ("1y", 1), ("Y", 0), ("N", 0), ("x", 0), ("0&x", 2),
                ("(0&1", 4), ("(0&)", 3), ("(&0)", 1), ("0&1\n", 3), ("0,1", 1), ("a", 0), ("[0]", 0), ("~0", 0),
                ("\u0661", 0), ("0\u00b2", 1), ("\u00b9", 0), ("1\u0660", 1), ("0&\u096a", 2)):
            with self.subTest(text=text):
                self.assertEqual(wrong_at(text), position)

    def test_all_short_texts_against_formulas_put_together(self):
        formulas = shortest_formulas(7)
        beginnings = {text[:length] for text in formulas for length in range(len(text) + 1)}
        for length in range(4):
            for signs in itertools.product("01y!&() ", repeat=length):
                text = "".join(signs)
                expected = max(count for count in range(length + 1) if text[:count] in beginnings)
                with self.subTest(text=text):
                    self.assertEqual(wrong_at(text), None if text in formulas else expected)

    def test_all_short_texts_against_a_trying_of_what_can_follow(self):
        for signs in itertools.chain(itertools.product(trees.ALPHABET, repeat=2), itertools.product("05n!|^()", repeat=4)):
            self.check("".join(signs))

    def check(self, text):
        with self.subTest(text=text):
            if trees.tree_of(text) is None:
                self.assertEqual(wrong_at(text), trees.position_of(text))
            else:
                self.assertIsNone(wrong_at(text))

    def test_signs_left_out_put_in_and_put_in_anothers_place(self):
        chance = random.Random(62)
        for text in trees.some_texts(40, chance, indices=(0, 7, 10, 99), depth=3):
            for at in range(len(text) + 1):
                sign = chance.choice(trees.ALPHABET + " a")
                self.check(text[:at])
                self.check((text[:at] + sign + text[at:])[:60])
                if at < len(text):
                    self.check(text[:at] + text[at + 1:])
                    self.check(text[:at] + sign + text[at + 1:])
                    self.check(text[at:])


class Length(unittest.TestCase):
    def test_60_characters(self):
        for text in ("!" * 59 + "0", "0|" * 29 + "99", "(" * 29 + "99" + ")" * 29, "10^" * 19 + "(0)"):
            self.assertEqual(len(text), 60)
            self.assertEqual(Formula(text).text, text)
        self.assertEqual(wrong_at("(" * 60), 60)
        self.assertEqual(wrong_at("!" * 60), 60)
        self.assertEqual(wrong_at("0|" * 30), 60)
        self.assertEqual(wrong_at("(" * 58 + "00"), 59)
        self.assertEqual(wrong_at("x" * 60), 0)

    def test_61_characters(self):
        for text in ("!" * 60 + "0", "0|" * 30 + "0", "x" * 61, " " * 61, "x" + "0" * 60, "0&" * 30 + "&", "(" * 61,
                     "(" * 61 + "0" + ")" * 61, "0" * 1000):
            with self.subTest(text=text):
                self.assertRaises(TooLong, Formula, text)
                self.assertRaises(TooLong, normal_text, text)

    def test_it_is_another_class_than_that_of_network_texts(self):
        self.assertIsNot(TooLong, texts.TooLong)


class NormalTexts(unittest.TestCase):
    def test_by_hand(self):
        for text, normal in (
                ("y", "y"), ("n", "n"), ("!y", "n"), ("!n", "y"), ("0", "0"), ("99", "99"), ("!7", "y^7"),
                ("0&1", "0&1"), ("1&0", "0&1"), ("0^1", "0^1"), ("1^0", "0^1"), ("0^0", "n"), ("0&0", "0"),
                ("0|0", "0"), ("0|y", "y"), ("0&n", "n"), ("0^y", "y^0"), ("0|1", "0^0&1^1"), ("!(0|1)", "y^0^0&1^1"),
                ("!0&!1", "y^0^0&1^1"), ("10^9", "9^10"), ("10&9^2", "2^9&10"), ("1&2^1&10^1", "1^1&2^1&10"),
                ("2&10^2&9&10", "2&9&10^2&10"), ("0&1&2^0&2^0^0&1", "0^0&1^0&1&2^0&2"), ("(0^1)&(0^2)", "0^0&1^0&2^1&2"),
                ("3&!3", "n"), ("3|!3", "y"), ("12^1^2^21", "1^2^12^21")):
            with self.subTest(text=text):
                self.assertEqual(normal_text(text), normal)
                self.assertEqual(Formula(text).normal(), normal)

    def test_against_multiplying_out_and_cancelling(self):
        chance = random.Random(63)
        for indices in ((0, 1), (0, 1, 2, 3), (1, 2, 10, 11, 20, 99), (5, 50, 55)):
            for text in trees.some_texts(150, chance, indices=indices):
                with self.subTest(text=text):
                    self.assertEqual(normal_text(text), trees.sum_text(trees.multiplied_out(trees.tree_of(text))))

    def test_equal_exactly_if_the_values_are_equal_for_all_bits(self):
        chance = random.Random(64)
        kinds = {}
        for text in trees.some_texts(300, chance, indices=(0, 1, 2), depth=3):
            values = tuple(Formula(text).value(bits) for bits in trees.all_bits(3))
            kinds.setdefault(values, set()).add(normal_text(text))
        self.assertEqual([len(normals) for normals in kinds.values()], [1] * len(kinds))
        normals = [normal for row in kinds.values() for normal in row]
        self.assertEqual(len(set(normals)), len(normals))

    def test_a_normal_text_of_at_most_60_characters_is_its_own(self):
        chance = random.Random(65)
        for text in trees.some_texts(200, chance, indices=(0, 3, 12), depth=3):
            normal = normal_text(text)
            if len(normal) <= 60:
                self.assertEqual(normal_text(normal), normal)

    def test_six_different_indices(self):
        for text in ("0^1^2^3^4^5", "5^4^3^2^1^0", "0^1^2^3^4^5^0^1"):
            self.assertEqual(len(Formula(text).indices()), 6)
        self.assertEqual(normal_text("5^4^3^2^1^0"), "0^1^2^3^4^5")
        self.assertEqual(normal_text("99&98&97&96&95&94"), "94&95&96&97&98&99")
        self.assertEqual(normal_text("10&11&12&13&14&15&n"), "n")
        every = [row for size in range(1, 7) for row in itertools.combinations(range(6), size)]
        expected = "^".join("&".join(map(str, row)) for row in sorted(every))
        self.assertEqual(normal_text("0|1|2|3|4|5"), expected)

    def test_seven_different_indices(self):
        for text in (SEVEN, "0&1&2&3&4&5&6", "0^1^2^3^4^5^6^6", "0^1^2^3^4^5^6&n", "(0|1|2|3|4|5|6)&n", "0^1^2^3^4^5^6^5^6",
                     "y|(0^1^2^3^4^5^60)"):
            with self.subTest(text=text):
                formula = Formula(text)
                self.assertEqual(len(formula.indices()), 7)
                self.assertRaises(TooManyInputs, formula.normal)
                self.assertRaises(TooManyInputs, normal_text, text)
                self.assertIn(formula.value((True,) * 7), (True, False))

    def test_errors_of_normal_text(self):
        for text, position in (("", 0), ("00", 1), (SEVEN + "^", 14), ("(" + SEVEN, 14)):
            with self.assertRaises(BadFormula) as caught:
                normal_text(text)
            self.assertEqual(caught.exception.position, position)


if __name__ == "__main__":
    unittest.main()
