"""[A8]: networks with their nodes in another order."""

import itertools
import unittest

from allknow.networks import Network
from allknow.texts import BadOrder, is_same, isomorphism, read_network, relabelled, write_network
from tests.samples import TEXTS, facts, some_networks


def orders(network):
    """All orders of a network, letter by letter."""
    return ["".join(row) for row in itertools.permutations(network.node_letters())]


def moved(network, order):
    """What a network relabelled by an order tells, worked out in another way."""
    names = {old: "ABCDEF"[place] for place, old in enumerate(order)}
    nodes = {names[old]: row for old, row in zip("ABCDEF", network.nodes)}
    links = tuple(names[link[0]] + names[link[1]] for link in network.links)
    return (network.variables, tuple(nodes[letter] for letter in sorted(nodes)), links)


class Relabelling(unittest.TestCase):
    def test_the_example_of_the_document(self):
        network = read_network("1: a |; AB")
        self.assertEqual(write_network(relabelled(network, "BA")), "1: | a ; BA")

    def test_three_nodes_that_are_not_just_exchanged(self):
        network = read_network("3: a | b | c ; AB, BC, AB")
        self.assertEqual(write_network(relabelled(network, "BCA")), "3: b | c | a ; CA, AB, CA")
        self.assertEqual(write_network(relabelled(network, "CAB")), "3: c | a | b ; BC, CA, BC")
        self.assertEqual(write_network(relabelled(network, "ABC")), "3: a | b | c ; AB, BC, AB")

    def test_each_order(self):
        for network in [read_network(text) for text in TEXTS] + some_networks(20, 2):
            for order in orders(network):
                with self.subTest(text=write_network(network), order=order):
                    before = facts(network)
                    self.assertEqual(facts(relabelled(network, order)), moved(network, order))
                    self.assertEqual(facts(network), before)

    def test_two_orders_one_behind_the_other(self):
        for network in some_networks(40, 3):
            if len(network.nodes) > 3:
                continue
            for first in orders(network):
                for second in orders(network):
                    both = "".join(first["ABC".index(letter)] for letter in second)
                    with self.subTest(text=write_network(network), first=first, second=second):
                        self.assertEqual(facts(relabelled(relabelled(network, first), second)),
                                         facts(relabelled(network, both)))

    def test_it_is_a_network_of_its_own(self):
        network = read_network("1: a | ; AB")
        told = relabelled(network, "AB")
        self.assertIs(type(told), Network)
        self.assertEqual(facts(told), facts(network))

    def test_texts_that_are_no_orders(self):
        network = read_network("1: a | | ; AB, BC")
        for text in ("", "A", "AB", "BC", "AAB", "ABB", "ABA", "AAA", "ABD", "ABCD", "ABCA", "ABCC",
                     "abc", "ABc", "ABC ", " ABC", "A BC", "AB ", "A,B,C", "123", "AB\u00c7", "ABC\n"):
            with self.subTest(text=text):
                self.assertRaises(BadOrder, relabelled, network, text)
        self.assertEqual(write_network(network), "1: a | | ; AB, BC")

    def test_texts_that_are_no_orders_of_a_single_node(self):
        for text in ("", "B", "a", "AA", "AB", " A"):
            with self.subTest(text=text):
                self.assertRaises(BadOrder, relabelled, read_network("0:;"), text)


class Same(unittest.TestCase):
    def same(self, first, second):
        answer = is_same(read_network(first), read_network(second))
        self.assertIs(is_same(read_network(second), read_network(first)), answer)
        return answer

    def test_the_order_of_links_does_not_matter(self):
        self.assertIs(self.same("1: a | | ; AB, BC, AB", "1: a | | ; BC, AB, AB"), True)
        self.assertIs(self.same("1: a | | ; AB, BC, CA", "1: a | | ; CA, BC, AB"), True)
        self.assertIs(self.same("0:;", "0:;"), True)

    def test_each_network_is_the_same_as_itself(self):
        for text in TEXTS:
            self.assertIs(self.same(text, text), True)

    def test_how_many_links_lead_there_matters(self):
        self.assertIs(self.same("1: a | ; AB, BA", "1: a | ; AB, AB"), False)
        self.assertIs(self.same("1: a | ; AB, AB, BA", "1: a | ; AB, BA, BA"), False)
        self.assertIs(self.same("1: a | ; AB", "1: a | ; AB, AB"), False)
        self.assertIs(self.same("1: a | ; AB", "1: a | ;"), False)

    def test_a_link_that_is_turned_matters(self):
        self.assertIs(self.same("1: a | ; AB", "1: a | ; BA"), False)

    def test_the_order_of_messages_matters(self):
        self.assertIs(self.same("2: a, b | ; AB", "2: b, a | ; AB"), False)
        self.assertIs(self.same("2: a, a, b ;", "2: a, b, a ;"), False)
        self.assertIs(self.same("2: a, a ;", "2: a ;"), False)

    def test_whose_messages_they_are_matters(self):
        self.assertIs(self.same("2: a | b ;", "2: b | a ;"), False)
        self.assertIs(self.same("2: a, b | ;", "2: a | b ;"), False)

    def test_the_number_of_variables_matters(self):
        self.assertIs(self.same("1: a | ; AB", "2: a | ; AB"), False)

    def test_the_number_of_nodes_matters(self):
        self.assertIs(self.same("1: a | ; AB", "1: a | | ; AB"), False)
        self.assertIs(self.same("0:;", "0:|;"), False)


class Isomorphism(unittest.TestCase):
    def order(self, first, second):
        return isomorphism(read_network(first), read_network(second))

    def test_ordinary_networks(self):
        self.assertEqual(self.order("1: a | ; AB", "1: | a ; BA"), "BA")
        self.assertEqual(self.order("1: a | ; AB", "1: a | ; AB"), "AB")
        self.assertEqual(self.order("3: a | b | c ; AB, BC, AB", "3: b | c | a ; AB, CA, CA"), "BCA")
        self.assertEqual(self.order("3: b | c | a ; AB, CA, CA", "3: a | b | c ; AB, BC, AB"), "CAB")
        self.assertEqual(self.order("0:;", "0:;"), "A")

    def test_of_nodes_that_are_alike_the_first_order_is_told(self):
        self.assertEqual(self.order("0:|||||;", "0:|||||;"), "ABCDEF")
        self.assertEqual(self.order("0: | | ; AB, BC, CA", "0: | | ; CA, AB, BC"), "ABC")
        self.assertEqual(self.order("0: | | ; AB, BC, CA", "0: | | ; BA, CB, AC"), "ACB")
        self.assertEqual(self.order("1: | a | | ;", "1: | | | a ;"), "ACDB")
        self.assertEqual(self.order("0: | | ; AC", "0: | | ; AB"), "ACB")
        self.assertEqual(self.order("0: | | | ; AB, CD", "0: | | | ; BA, DC"), "BADC")

    def test_there_is_none(self):
        self.assertIsNone(self.order("1: a | ; AB", "1: a | ; BA"))
        self.assertIsNone(self.order("1: a | ; AB", "2: a | ; AB"))
        self.assertIsNone(self.order("1: a | ; AB", "1: a | | ; AB"))
        self.assertIsNone(self.order("1: a | | ; AB", "1: a | ; AB"))
        self.assertIsNone(self.order("1: a | ; AB", "1: a | ; AB, AB"))
        self.assertIsNone(self.order("2: a, b | ; AB", "2: | b, a ; BA"))
        self.assertIsNone(self.order("0: | | ; AB, AC", "0: | | ; AB, BC"))

    def test_it_is_the_first_order(self):
        for network in some_networks(60, 4):
            if len(network.nodes) > 4:
                continue
            for order in orders(network):
                other = relabelled(network, order)
                other = Network(other.variables, other.nodes, other.links[::-1])
                good = [told for told in orders(network) if is_same(relabelled(network, told), other)]
                with self.subTest(text=write_network(network), order=order):
                    self.assertIn(order, good)
                    self.assertEqual(isomorphism(network, other), good[0])

    def test_any_two_small_networks(self):
        networks = [read_network(text) for text in TEXTS] + some_networks(30, 5)
        networks = [network for network in networks if len(network.nodes) < 4]
        for first in networks:
            for second in networks:
                good = [told for told in orders(first) if is_same(relabelled(first, told), second)]
                with self.subTest(first=write_network(first), second=write_network(second)):
                    self.assertEqual(isomorphism(first, second), good[0] if good else None)


if __name__ == "__main__":
    unittest.main()
