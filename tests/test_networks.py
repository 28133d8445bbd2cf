"""[0.3], [A1], [A2]: networks, and what is wrong with others."""

import itertools
import unittest

from allknow.networks import BadNetwork, Network, NoNode, is_link, is_message, node_number
from tests.samples import facts

OTHER_TEXTS = ("", " ", "a", "AB", "ABC", "BA", "A ", " A", "AA", "Z", "1", "0", "\u00c4", "\n", "A\n")


class Building(unittest.TestCase):
    def test_an_ordinary_network(self):
        network = Network(3, [["ab", "bc"], ["c"], []], ["AB", "BC", "CA"])
        self.assertEqual(network.variables, 3)
        self.assertEqual(network.nodes, (("ab", "bc"), ("c",), ()))
        self.assertEqual(network.links, ("AB", "BC", "CA"))
        self.assertEqual(network.node_letters(), "ABC")
        self.assertEqual(network.variable_letters(), "abc")
        self.assertEqual(network.messages("A"), ("ab", "bc"))
        self.assertEqual(network.messages("B"), ("c",))
        self.assertEqual(network.messages("C"), ())
        self.assertEqual(network.all_messages(), ["ab", "bc", "c"])

    def test_the_smallest_network(self):
        network = Network(0, [[]], [])
        self.assertEqual(facts(network), (0, ((),), ()))
        self.assertEqual(network.node_letters(), "A")
        self.assertEqual(network.variable_letters(), "")
        self.assertEqual(network.messages("A"), ())
        self.assertEqual(network.all_messages(), [])

    def test_the_greatest_network(self):
        row = ["abcdef", "abcdef", "f", "ace"]
        network = Network(6, [row] * 6, ["AF"] * 15 + ["FA"])
        self.assertEqual(network.nodes, (tuple(row),) * 6)
        self.assertEqual(network.links, ("AF",) * 15 + ("FA",))
        self.assertEqual(network.node_letters(), "ABCDEF")
        self.assertEqual(network.variable_letters(), "abcdef")
        self.assertEqual(network.all_messages(), row * 6)

    def test_each_number_of_variables_and_of_nodes(self):
        for variables in range(7):
            for count in range(1, 7):
                with self.subTest(variables=variables, count=count):
                    network = Network(variables, [()] * count, ())
                    self.assertEqual(network.variables, variables)
                    self.assertEqual(network.variable_letters(), "abcdef"[:variables])
                    self.assertEqual(network.node_letters(), "ABCDEF"[:count])
                    self.assertEqual(network.nodes, ((),) * count)

    def test_the_same_message_twice_stays_twice(self):
        network = Network(1, [["a", "a"], ["a"]], [])
        self.assertEqual(network.messages("A"), ("a", "a"))
        self.assertEqual(network.all_messages(), ["a", "a", "a"])

    def test_messages_and_links_keep_their_order(self):
        network = Network(2, [["b", "ab", "a"], []], ["BA", "AB", "BA"])
        self.assertEqual(network.messages("A"), ("b", "ab", "a"))
        self.assertEqual(network.links, ("BA", "AB", "BA"))

    def test_lists_and_tuples_stand_for_one_another(self):
        expected = (2, (("a", "b"), ()), ("AB", "AB"))
        for rows in (list, tuple):
            for inner in (list, tuple):
                for links in (list, tuple):
                    network = Network(2, rows([inner(("a", "b")), inner(())]), links(("AB", "AB")))
                    self.assertEqual(facts(network), expected)
        self.assertEqual(facts(Network(2, (["a", "b"], ()), ["AB", "AB"])), expected)
        self.assertEqual(facts(Network(2, [("a", "b"), []], ("AB", "AB"))), expected)

    def test_what_is_told_are_tuples_also_within(self):
        network = Network(1, [["a"], []], ["AB"])
        self.assertIs(type(network.nodes), tuple)
        self.assertEqual([type(row) for row in network.nodes], [tuple, tuple])
        self.assertIs(type(network.links), tuple)
        self.assertIs(type(network.messages("A")), tuple)
        self.assertIs(type(network.messages("B")), tuple)
        self.assertIs(type(network.all_messages()), list)

    def test_later_changes_change_nothing(self):
        first = ["a"]
        nodes = [first, []]
        links = ["AB"]
        network = Network(2, nodes, links)
        first.append("b")
        nodes.append(["ab"])
        nodes[1] = ["b"]
        links[0] = "BA"
        links.append("AB")
        self.assertEqual(facts(network), (2, (("a",), ()), ("AB",)))
        self.assertEqual(network.node_letters(), "AB")
        self.assertEqual(network.all_messages(), ["a"])

    def test_changes_of_all_messages_change_nothing(self):
        network = Network(1, [["a"], ["a"]], [])
        told = network.all_messages()
        told.append("b")
        told[0] = "c"
        self.assertEqual(network.all_messages(), ["a", "a"])
        self.assertEqual(network.nodes, (("a",), ("a",)))

    def test_what_is_handed_in_is_not_changed(self):
        nodes = [["a"], ("a",), []]
        links = ["AB", "CA"]
        Network(1, nodes, links)
        self.assertEqual(nodes, [["a"], ("a",), []])
        self.assertEqual(links, ["AB", "CA"])


class Wrong(unittest.TestCase):
    def wrong(self, variables, nodes, links):
        with self.assertRaises(BadNetwork) as caught:
            Network(variables, nodes, links)
        return (caught.exception.part, caught.exception.number, caught.exception.reason)

    def test_the_number_of_variables(self):
        for variables in (-100, -2, -1, 7, 8, 26, 100):
            with self.subTest(variables=variables):
                self.assertEqual(self.wrong(variables, [[]], []), ("variables", None, "range"))

    def test_the_number_of_nodes(self):
        for count in (0, 7, 8, 27):
            for kind in (list, tuple):
                with self.subTest(count=count, kind=kind):
                    self.assertEqual(self.wrong(1, kind([[]] * count), []), ("nodes", None, "count"))

    def test_the_number_of_messages(self):
        for number in range(3):
            for count in (5, 6):
                nodes = [["a"] * 4, ["a"] * 4, ["a"] * 4]
                nodes[number] = ["a"] * count
                with self.subTest(number=number, count=count):
                    self.assertEqual(self.wrong(1, nodes, []), ("nodes", number, "count"))

    def test_texts_that_are_no_messages(self):
        for text in ("", "aa", "aba", "ba", "abdd", "d", "abd", "A", "aB", "1", " ", "a ", " a",
                     "a,b", "\u00e4", "ab\n", "`", "{"):
            for number in range(2):
                for index in range(4):
                    nodes = [["a"] * 4, ["a"] * 4]
                    nodes[number][index] = text
                    with self.subTest(text=text, number=number, index=index):
                        self.assertEqual(self.wrong(3, nodes, []), ("nodes", number, "message"))

    def test_no_text_is_a_message_without_variables(self):
        for text in ("", "a", "0"):
            with self.subTest(text=text):
                self.assertEqual(self.wrong(0, [[], [text]], []), ("nodes", 1, "message"))

    def test_the_number_of_links(self):
        for count in (17, 18, 40):
            with self.subTest(count=count):
                self.assertEqual(self.wrong(0, [[], []], ["AB"] * count), ("links", None, "count"))

    def test_texts_that_are_no_links(self):
        for text in ("", "A", "B", "ABC", "ABA", "AA", "BB", "AD", "DA", "DE", "ab", "aB", "Ab",
                     "A ", " A", "A,B", "12", "A\u00c4", "@A", "A["):
            for number in range(3):
                links = ["AB", "BC", "CA"]
                links[number] = text
                with self.subTest(text=text, number=number):
                    self.assertEqual(self.wrong(1, [["a"], [], []], links), ("links", number, "link"))

    def test_a_single_node_has_no_links(self):
        for text in ("AA", "AB", "BA"):
            with self.subTest(text=text):
                self.assertEqual(self.wrong(0, [[]], [text]), ("links", 0, "link"))

    def test_the_first_wrong_thing_is_told(self):
        many = ["x"] * 17
        rows = [["x"] * 5] * 7
        self.assertEqual(self.wrong(7, rows, many), ("variables", None, "range"))
        self.assertEqual(self.wrong(-1, [], many), ("variables", None, "range"))
        self.assertEqual(self.wrong(1, rows, many), ("nodes", None, "count"))
        self.assertEqual(self.wrong(1, [], many), ("nodes", None, "count"))
        self.assertEqual(self.wrong(1, [[], ["x"] * 5], many), ("nodes", 1, "count"))
        self.assertEqual(self.wrong(1, [[], ["a", "x"]], many), ("nodes", 1, "message"))
        self.assertEqual(self.wrong(1, [[], ["a"]], many), ("links", None, "count"))
        self.assertEqual(self.wrong(1, [[], ["a"]], many[:16]), ("links", 0, "link"))

    def test_nodes_are_looked_at_one_by_one(self):
        self.assertEqual(self.wrong(1, [["b"], ["a"] * 5], []), ("nodes", 0, "message"))
        self.assertEqual(self.wrong(1, [["a"] * 5, ["b"]], []), ("nodes", 0, "count"))
        self.assertEqual(self.wrong(1, [["a"], ["b"], ["b"]], []), ("nodes", 1, "message"))
        self.assertEqual(self.wrong(1, [["a"], ["a"] * 5, ["b"] * 5], []), ("nodes", 1, "count"))

    def test_the_first_wrong_link_is_told(self):
        self.assertEqual(self.wrong(0, [[], []], ["AB", "BA", "AC", "AA"]), ("links", 2, "link"))

    def test_an_error_changes_nothing(self):
        nodes = [["a"], ["b", "x"]]
        links = ["AB", "x"]
        with self.assertRaises(BadNetwork):
            Network(2, nodes, links)
        self.assertEqual(nodes, [["a"], ["b", "x"]])
        self.assertEqual(links, ["AB", "x"])


class Asking(unittest.TestCase):
    def test_is_message(self):
        for variables in range(7):
            letters = "abcdef"[:variables]
            messages = ["".join(row) for size in range(1, variables + 1)
                        for row in itertools.combinations(letters, size)]
            texts = ["".join(row) for size in range(4)
                     for row in itertools.product("abcdefgA -", repeat=size)]
            for text in messages + texts:
                with self.subTest(variables=variables, text=text):
                    self.assertIs(is_message(variables, text), text in messages)

    def test_is_message_refuses_other_texts(self):
        for text in ("", " ", "A", "1", "a b", "ab ", "\u00e4", "a\n", "a" * 500, "abcabc", "abcc"):
            with self.subTest(text=text):
                self.assertIs(is_message(3, text), False)

    def test_is_message_beyond_the_numbers_of_networks(self):
        self.assertIs(is_message(-1, "a"), False)
        self.assertIs(is_message(-1, ""), False)
        self.assertIs(is_message(7, "ag"), True)
        self.assertIs(is_message(7, "h"), False)

    def test_is_link(self):
        for nodes in range(1, 7):
            letters = "ABCDEF"[:nodes]
            links = ["".join(row) for row in itertools.permutations(letters, 2)]
            for size in range(4):
                for row in itertools.product("ABCDEFGa ", repeat=size):
                    text = "".join(row)
                    with self.subTest(nodes=nodes, text=text):
                        self.assertIs(is_link(nodes, text), text in links)

    def test_is_link_beyond_the_numbers_of_networks(self):
        self.assertIs(is_link(0, "AB"), False)
        self.assertIs(is_link(-1, "AB"), False)
        self.assertIs(is_link(7, "GA"), True)
        self.assertIs(is_link(7, "AH"), False)

    def test_node_number(self):
        for count in range(1, 7):
            network = Network(1, [["a"]] * count, [])
            for number, letter in enumerate("ABCDEFGH"):
                with self.subTest(count=count, letter=letter):
                    if number < count:
                        self.assertEqual(node_number(network, letter), number)
                        self.assertEqual(network.messages(letter), ("a",))
                    else:
                        self.assertRaises(NoNode, node_number, network, letter)
                        self.assertRaises(NoNode, network.messages, letter)

    def test_other_texts_are_no_nodes(self):
        network = Network(1, [["a"], [], []], ["AB"])
        for text in OTHER_TEXTS:
            with self.subTest(text=text):
                self.assertRaises(NoNode, node_number, network, text)
                self.assertRaises(NoNode, network.messages, text)
        self.assertEqual(facts(network), (1, (("a",), (), ()), ("AB",)))


if __name__ == "__main__":
    unittest.main()
