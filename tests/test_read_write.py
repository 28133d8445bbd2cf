"""[A5], [A6], [A7]: the texts of networks."""

import itertools
import re
import unittest

from allknow.networks import Network
from allknow.texts import BadText, TooLong, read_network, write_network
from tests.samples import TEXTS, facts, some_networks

# Whatever can still become a text of a network does so with one of these behind it.
ENDINGS = ("", "0:;", ":;", ";", "a;", "b;", "c;", "d;", "e;", "f;", "A", "B", "C", "D", "E", "F", "AB")


def is_text(text):
    """Whether a text is one of a network, told in another way than the program does."""
    match = re.fullmatch(r"([0-6]):([a-f,|]*);([A-F,]*)", text.replace(" ", ""))
    if match is None:
        return False
    letters = "abcdef"[:int(match[1])]
    rows = [row.split(",") if row else [] for row in match[2].split("|")]
    links = match[3].split(",") if match[3] else []
    if len(rows) > 6 or len(links) > 16 or any(len(row) > 4 for row in rows):
        return False
    for message in itertools.chain(*rows):
        if not message or list(message) != sorted(set(message)) or not set(message) <= set(letters):
            return False
    nodes = "ABCDEF"[:len(rows)]
    return all(len(link) == 2 and len(set(link)) == 2 and set(link) <= set(nodes) for link in links)


def goes_wrong(text):
    """Where a text goes wrong, or None if it is the text of a network."""
    for length in range(1, len(text) + 1):
        if not any(is_text(text[:length] + ending) for ending in ENDINGS):
            return length - 1
    return None if is_text(text) else len(text)


class Reading(unittest.TestCase):
    def position(self, text):
        with self.assertRaises(BadText) as caught:
            read_network(text)
        return caught.exception.position

    def check(self, text):
        """A text is read if it is one, and otherwise goes wrong where it should."""
        position = goes_wrong(text)
        with self.subTest(text=text):
            if position is None:
                read_network(text)
            else:
                self.assertEqual(self.position(text), position)

    def test_ordinary_texts(self):
        self.assertEqual(facts(read_network("3: ab, bc | c | ; AB, BC, CA")),
                         (3, (("ab", "bc"), ("c",), ()), ("AB", "BC", "CA")))
        self.assertEqual(facts(read_network("3:ab,bc|c|;AB,BC,CA")),
                         (3, (("ab", "bc"), ("c",), ()), ("AB", "BC", "CA")))
        self.assertEqual(facts(read_network("0:;")), (0, ((),), ()))
        self.assertEqual(facts(read_network("6:;")), (6, ((),), ()))
        self.assertEqual(facts(read_network("1:a,a,a,a;")), (1, (("a",) * 4,), ()))
        self.assertEqual(facts(read_network("0:|||||;FA")), (0, ((),) * 6, ("FA",)))
        self.assertEqual(facts(read_network("0:|;" + ",".join(["AB"] * 16))), (0, ((), ()), ("AB",) * 16))

    def test_what_is_read_is_a_network(self):
        self.assertIs(type(read_network("0:;")), Network)

    def test_the_examples_of_the_document(self):
        self.assertEqual(self.position("3:ba;"), 3)
        self.assertEqual(self.position("3:a,a,a,a,a;"), 9)
        self.assertEqual(self.position("0:;AB"), 3)
        self.assertEqual(self.position("0:|;A"), 5)

    def test_spaces_may_stand_anywhere(self):
        spaced = "  3 :  a b ,b   c|  c | ;A  B,  B C , C A   "
        self.assertEqual(facts(read_network(spaced)), (3, (("ab", "bc"), ("c",), ()), ("AB", "BC", "CA")))
        for text in TEXTS:
            bare = text.replace(" ", "")
            expected = facts(read_network(text))
            self.assertEqual(facts(read_network(bare)), expected)
            for at in range(len(bare) + 1):
                for many in (1, 3):
                    with self.subTest(text=text, at=at, many=many):
                        spaced = bare[:at] + " " * many + bare[at:]
                        self.assertEqual(facts(read_network(spaced)), expected)
        self.assertEqual(facts(read_network("   ".join("2:a,ab|b;AB,BA"))), (2, (("a", "ab"), ("b",)), ("AB", "BA")))

    def test_no_other_signs_stand_for_spaces(self):
        for sign in ("\t", "\n", "\r", "\u00a0", "\u3000", "_", "."):
            for at in range(len("1:a|;AB") + 1):
                with self.subTest(sign=sign, at=at):
                    self.assertEqual(self.position("1:a|;AB"[:at] + sign + "1:a|;AB"[at:]), at)

    def test_spaces_count_in_positions(self):
        self.assertEqual(self.position("   "), 3)
        self.assertEqual(self.position(" 7"), 1)
        self.assertEqual(self.position(" 3 : b a ;"), 7)
        self.assertEqual(self.position("0: ; AB"), 5)
        self.assertEqual(self.position("0: | ; A  "), 10)
        self.assertEqual(self.position("0: | ; AB ,  "), 13)
        self.assertEqual(self.position("0: | ; AB ,  x "), 13)

    def test_the_number_of_variables(self):
        for text in ("", "7:;", "8:;", "-1:;", "x", ":;", "a:;", "\u0663:;", "\u00b2:;"):
            with self.subTest(text=text):
                self.assertEqual(self.position(text), 0)
        self.assertEqual(self.position("00:;"), 1)
        self.assertEqual(self.position("6"), 1)
        self.assertEqual(self.position("6;"), 1)

    def test_messages(self):
        self.assertEqual(self.position("0:a;"), 2)
        self.assertEqual(self.position("2:c;"), 2)
        self.assertEqual(self.position("2:abc;"), 4)
        self.assertEqual(self.position("2:aa;"), 3)
        self.assertEqual(self.position("2:A;"), 2)
        self.assertEqual(self.position("2:,a;"), 2)
        self.assertEqual(self.position("2:a,;"), 4)
        self.assertEqual(self.position("2:a,|;"), 4)
        self.assertEqual(self.position("2:a,,a;"), 4)
        self.assertEqual(self.position("2:a"), 3)
        self.assertEqual(self.position("2:a,"), 4)
        self.assertEqual(self.position("1:|a,a,a,a,a;"), 10)

    def test_nodes(self):
        self.assertEqual(self.position("0:||||||;"), 7)
        self.assertEqual(self.position("1:a|a|a|a|a|a|a;"), 13)
        self.assertEqual(self.position("0:"), 2)
        self.assertEqual(self.position("0:|"), 3)
        self.assertEqual(self.position("0:|:"), 3)

    def test_links(self):
        self.assertEqual(self.position("1:a;A"), 4)
        self.assertEqual(self.position("1:a;,"), 4)
        self.assertEqual(self.position("0:|;AA"), 5)
        self.assertEqual(self.position("0:|;AC"), 5)
        self.assertEqual(self.position("0:|;CA"), 4)
        self.assertEqual(self.position("0:|;a"), 4)
        self.assertEqual(self.position("0:|;,AB"), 4)
        self.assertEqual(self.position("0:|;AB,"), 7)
        self.assertEqual(self.position("0:|;AB,B"), 8)
        self.assertEqual(self.position("0:|;ABA"), 6)
        self.assertEqual(self.position("0:|;AB;"), 6)
        sixteen = "0:|;" + ",".join(["AB"] * 16)
        self.assertEqual(self.position(sixteen + ",AB"), len(sixteen))
        self.assertEqual(self.position(sixteen + ","), len(sixteen))
        self.assertEqual(self.position(sixteen + "  ,"), len(sixteen) + 2)

    def test_all_short_texts(self):
        for size in range(6):
            for row in itertools.product("0a:|;,A ", repeat=size):
                self.check("".join(row))
        for size in range(5):
            for row in itertools.product("abAB|;,", repeat=size):
                self.check("2:" + "".join(row))
                self.check("2:|;" + "".join(row))

    def test_one_character_left_out_put_in_or_put_in_anothers_place(self):
        for text in TEXTS[:14]:
            for at in range(len(text) + 1):
                self.check(text[:at])
                self.check(text[:at] + text[at + 1:])
                for sign in "06adfAF:|;, \tx":
                    self.check(text[:at] + sign + text[at:])
                    self.check(text[:at] + sign + text[at + 1:])

    def test_the_greatest_text_with_more(self):
        text = TEXTS[-1]
        for at in range(len(text) + 1):
            self.check(text[:at])
        for sign in "a|;,AEx":
            self.check(text.replace(" ;", sign + ";"))
            self.check(text + sign)

    def test_four_hundred_characters(self):
        for text in TEXTS:
            wide = text + " " * (400 - len(text))
            self.assertEqual(facts(read_network(wide)), facts(read_network(text)))
            self.assertEqual(facts(read_network(" " * (400 - len(text)) + text)), facts(read_network(text)))
            self.assertRaises(TooLong, read_network, wide + " ")
            self.assertRaises(TooLong, read_network, " " + wide)

    def test_too_long_comes_first(self):
        self.assertEqual(self.position(" " * 400), 400)
        self.assertEqual(self.position("x" * 400), 0)
        self.assertEqual(self.position("0:;" + " " * 396 + "A"), 399)
        for text in (" " * 401, "x" * 401, "0:;" + "A" * 398, " " * 5000):
            with self.subTest(length=len(text)):
                self.assertRaises(TooLong, read_network, text)


class Writing(unittest.TestCase):
    def test_the_example_of_the_document(self):
        network = Network(3, [["ab", "bc"], ["c"], []], ["AB", "BC", "CA"])
        self.assertEqual(write_network(network), "3: ab, bc | c | ; AB, BC, CA")

    def test_just_the_spaces_of_the_document(self):
        self.assertEqual(write_network(Network(0, [[]], [])), "0: ;")
        self.assertEqual(write_network(Network(6, [[], []], [])), "6: | ;")
        self.assertEqual(write_network(Network(1, [["a"]], [])), "1: a ;")
        self.assertEqual(write_network(Network(2, [[], ["ab", "ab"]], ["BA"])), "2: | ab, ab ; BA")

    def test_what_is_written_is_read_again(self):
        for text in TEXTS:
            with self.subTest(text=text):
                self.assertEqual(write_network(read_network(text)), text)

    def test_what_is_written_is_the_same_network(self):
        for network in some_networks(300, 1):
            text = write_network(network)
            with self.subTest(text=text):
                self.assertTrue(is_text(text))
                self.assertEqual(facts(read_network(text)), facts(network))
                self.assertEqual(write_network(read_network(text)), text)


if __name__ == "__main__":
    unittest.main()
