"""[A3], [D1], [D2], [D3]: sets of nodes, and the links that lead into them."""

import functools
import itertools
import random
import unittest

from allknow.networks import Network, NoLink, NoNode, NoSet
from allknow.node_sets import (NotFeasible, around, can_carry, deficient_sets, first_deficient, node_set, tight_sets,
                               without)
from allknow.schedules import next_transmissions
from allknow.texts import read_network, write_network
from tests import reference
from tests.samples import DEFICIENT, FEASIBLE, GREATEST, TEXTS, small_network, some_networks

EXAMPLE = read_network("2: a, b | | ; AB, AB, BC, AC")
LACKING = read_network("2: a, b | | ; AB, BC, AC")

OTHER_NODES = ("", "D", "a", "AB", " ", "BA", "ABC", "1", "Z")


def is_feasible(network):
    return not any(facts[4] for facts in reference.network_facts(network).values())


def thinned(chance, network):
    """A feasible network without links that can be left out, so that many of its sets are tight."""
    for number in sorted(range(len(network.links)), reverse=True):
        links = network.links[:number] + network.links[number + 1:]
        fewer = Network(network.variables, network.nodes, links)
        if chance.random() < 0.9 and is_feasible(fewer):
            network = fewer
    return network


@functools.lru_cache(maxsize=None)
def feasible_networks():
    """Networks in which no set is deficient, by the reference."""
    chance = random.Random(31)
    found = [read_network(text) for text in FEASIBLE + GREATEST[:4]]
    for _ in range(400):
        network = small_network(chance, 5, 3, 3, 12)
        if is_feasible(network):
            found.append(network)
            found.append(thinned(chance, network))
    return found


def tight_by_reference(network):
    facts = reference.network_facts(network)
    return [nodes for nodes in facts if facts[nodes][3]]


def union(sets, letters):
    """The union of some sets, or None if there are none."""
    return "".join(letter for letter in letters if any(letter in nodes for nodes in sets)) if sets else None


class Examples(unittest.TestCase):
    def test_the_examples_of_the_document(self):
        self.assertEqual(tight_sets(EXAMPLE), ("A", "B", "C", "AB", "ABC"))
        self.assertIsNone(around(EXAMPLE, "A"))
        self.assertEqual(around(EXAMPLE, "B"), "B")
        self.assertEqual(without(EXAMPLE, "B", "C"), "AB")
        self.assertEqual(can_carry(EXAMPLE, 0), ("B", (0, 1)))
        self.assertEqual(can_carry(EXAMPLE, 2), ("C", ()))

    def test_the_others_for_the_same_network(self):
        self.assertEqual(deficient_sets(EXAMPLE), ())
        self.assertIsNone(first_deficient(EXAMPLE))
        self.assertEqual(node_set(EXAMPLE, "A"), (2, 0, (), True, False))
        self.assertEqual(node_set(EXAMPLE, "B"), (0, 2, (0, 1), True, False))
        self.assertEqual(node_set(EXAMPLE, "C"), (0, 2, (2, 3), True, False))
        self.assertEqual(node_set(EXAMPLE, "BC"), (0, 2, (0, 1, 3), False, False))
        self.assertEqual(node_set(EXAMPLE, "AC"), (2, 0, (2,), False, False))
        self.assertEqual(node_set(EXAMPLE, "ABC"), (2, 0, (), True, False))
        self.assertEqual(around(EXAMPLE, "C"), "C")
        self.assertEqual(without(EXAMPLE, "C", "B"), "C")
        self.assertEqual(without(EXAMPLE, "A", "C"), "AB")
        self.assertEqual(without(EXAMPLE, "A", "B"), "A")
        self.assertEqual(can_carry(EXAMPLE, 1), ("B", (0, 1)))
        self.assertEqual(can_carry(EXAMPLE, 3), ("C", (0, 1)))

    def test_a_link_less(self):
        self.assertEqual(deficient_sets(LACKING), ("B",))
        self.assertEqual(first_deficient(LACKING), "B")
        self.assertEqual(tight_sets(LACKING), ("A", "C", "AB", "BC", "ABC"))
        self.assertEqual(node_set(LACKING, "B"), (0, 2, (0,), False, True))
        self.assertEqual(node_set(LACKING, "BC"), (0, 2, (0, 2), True, False))

    def test_a_link_turned(self):
        network = read_network("2: a, b | | ; AB, BA, BC, AC")
        self.assertEqual(deficient_sets(network), ("B",))
        self.assertEqual(node_set(network, "A"), (2, 0, (1,), False, False))
        network = read_network("2: a, b | | ; AB, AB, CB, AC")
        self.assertEqual(deficient_sets(network), ("C",))
        self.assertEqual(node_set(network, "B"), (0, 2, (0, 1, 2), False, False))


class Edges(unittest.TestCase):
    def test_one_node(self):
        for text in ("0: ;", "6: ;", "1: a ;", "2: a, b, ab ;"):
            network = read_network(text)
            rank = reference.rank(network.all_messages())
            self.assertEqual(tight_sets(network), ("A",))
            self.assertEqual(deficient_sets(network), ())
            self.assertEqual(node_set(network, "A"), (rank, 0, (), True, False))
            self.assertIsNone(around(network, "A"))
            self.assertIsNone(without(network, "A", "A"))
            self.assertRaises(NoLink, can_carry, network, 0)

    def test_no_links(self):
        network = read_network("2: a | b | ;")
        self.assertEqual(deficient_sets(network), ("A", "B", "C", "AC", "BC"))
        self.assertEqual(tight_sets(network), ("AB", "ABC"))
        self.assertEqual(node_set(network, "BC"), (1, 1, (), False, True))
        network = read_network("2: a | a | a ;")
        self.assertEqual(deficient_sets(network), ())
        self.assertEqual(tight_sets(network), ("A", "B", "C", "AB", "AC", "BC", "ABC"))

    def test_no_messages(self):
        network = read_network("6: | | ; AB, BC")
        self.assertEqual(deficient_sets(network), ())
        self.assertEqual(tight_sets(network), ("A", "AB", "ABC"))
        self.assertEqual(node_set(network, "BC"), (0, 0, (0,), False, False))
        self.assertIsNone(around(network, "A"))
        self.assertEqual(can_carry(network, 0), (None, ()))
        self.assertIsNone(without(network, "C", "A"))
        self.assertEqual(without(network, "B", "C"), "AB")

    def test_six_nodes_without_links(self):
        network = read_network("0: | | | | | ;")
        every = tight_sets(network)
        self.assertEqual(len(every), 63)
        self.assertEqual(every[:8], ("A", "B", "C", "D", "E", "F", "AB", "AC"))
        self.assertEqual(every[20:23], ("EF", "ABC", "ABD"))
        self.assertEqual(every[-8:],
                         ("CDEF", "ABCDE", "ABCDF", "ABCEF", "ABDEF", "ACDEF", "BCDEF", "ABCDEF"))
        self.assertEqual(list(every), sorted(every, key=lambda nodes: (len(nodes), nodes)))
        network = read_network("1: a | | | | | ;")
        self.assertEqual(deficient_sets(network), tuple(nodes for nodes in every if "A" not in nodes))

    def test_sixteen_links(self):
        network = read_network("0: | ;" + ",".join([" AB"] * 16))
        self.assertEqual(node_set(network, "B"), (0, 0, tuple(range(16)), False, False))
        self.assertEqual(node_set(network, "A"), (0, 0, (), True, False))
        for text in GREATEST:
            network = read_network(text)
            for nodes, facts in reference.network_facts(network).items():
                self.assertEqual(node_set(network, nodes), facts)

    def test_just_feasible_ones(self):
        for text in FEASIBLE + GREATEST[:4]:
            with self.subTest(text=text):
                self.assertIsNone(first_deficient(read_network(text)))
                self.assertEqual(deficient_sets(read_network(text)), ())

    def test_deficient_ones(self):
        for text in DEFICIENT + GREATEST[4:]:
            network = read_network(text)
            with self.subTest(text=text):
                self.assertNotEqual(deficient_sets(network), ())
                self.assertEqual(first_deficient(network), deficient_sets(network)[0])

    def test_a_node_without_itself(self):
        for node in "ABC":
            self.assertIsNone(without(EXAMPLE, node, node))

    def test_can_carry_where_not_every_message_can_be_carried(self):
        network = read_network("2: a, b | b ; AB")
        self.assertEqual(can_carry(network, 0), ("B", (0,)))
        # Links to spare lead into B, so that only what B has by itself is barred.
        network = read_network("2: a, b, ab | b | ; AB, AC, BC, CB")
        self.assertEqual(can_carry(network, 0), (None, (0, 2)))
        network = read_network("2: a, b | | ; AB, AC, BC, CB")
        self.assertEqual(can_carry(network, 0), ("BC", (0, 1)))
        network = read_network("2: a, b | a | b ; AC, AB, AB")
        self.assertEqual(can_carry(network, 0), ("C", (0,)))
        self.assertEqual(can_carry(network, 1), (None, (1,)))
        # Into B and C together only what neither of them has can be carried.
        network = read_network("3: a, b, c | a | b ; AB, BC, CB, BC, CB")
        self.assertEqual(can_carry(network, 0), ("BC", (2,)))

    def test_the_same_message_twice(self):
        network = read_network("1: a, a | ; AB")
        self.assertEqual(can_carry(network, 0), ("B", (0, 1)))


class TryingEverything(unittest.TestCase):
    def test_all_sets_of_many_networks(self):
        for network in [read_network(text) for text in TEXTS] + some_networks(60, 32):
            facts = reference.network_facts(network)
            with self.subTest(text=write_network(network)):
                for nodes in facts:
                    self.assertEqual(node_set(network, nodes), facts[nodes])
                tight = tuple(nodes for nodes in facts if facts[nodes][3])
                deficient = tuple(nodes for nodes in facts if facts[nodes][4])
                self.assertEqual(tight_sets(network), tight)
                self.assertEqual(deficient_sets(network), deficient)
                self.assertEqual(first_deficient(network), deficient[0] if deficient else None)

    def test_around_and_without(self):
        for network in feasible_networks():
            facts = reference.network_facts(network)
            letters = network.node_letters()
            tight = [nodes for nodes in facts if facts[nodes][3]]
            with self.subTest(text=write_network(network)):
                for node in letters:
                    good = [nodes for nodes in tight if node in nodes and facts[nodes][1] > 0]
                    self.assertEqual(around(network, node), good[0] if good else None)
                    for nodes in good:
                        # It lies within all others.
                        self.assertLessEqual(set(good[0]), set(nodes))
                    for other in letters:
                        sets = [nodes for nodes in tight if node in nodes and other not in nodes]
                        self.assertEqual(without(network, node, other), union(sets, letters))

    def test_two_tight_sets_with_a_common_node(self):
        for network in feasible_networks()[::3]:
            tight = tight_sets(network)
            for one, other in itertools.combinations(tight, 2):
                common = set(one) & set(other)
                if common:
                    with self.subTest(text=write_network(network), one=one, other=other):
                        self.assertIn("".join(sorted(common)), tight)
                        self.assertIn("".join(sorted(set(one) | set(other))), tight)
                        for sender, receiver in network.links:
                            self.assertFalse(sender in set(one) - common and receiver in set(other) - common)
                            self.assertFalse(sender in set(other) - common and receiver in set(one) - common)

    def test_can_carry(self):
        barred = 0
        for network in feasible_networks():
            letters = network.node_letters()
            tight = tight_by_reference(network)
            for link, (sender, receiver) in enumerate(network.links):
                nodes = union([nodes for nodes in tight if receiver in nodes and sender not in nodes], letters)
                had = [text for node in (nodes or receiver) for text in network.messages(node)]
                messages = network.messages(sender)
                indices = tuple(index for index, text in enumerate(messages)
                                if text not in reference.sums(tuple(had)))
                new = [text for text in messages if text not in reference.sums(network.messages(receiver))]
                barred += len(new) - len(indices)
                with self.subTest(text=write_network(network), link=link):
                    self.assertEqual(can_carry(network, link), (nodes, indices))
        self.assertGreater(barred, 10)

    def test_a_complete_schedule_can_begin_with_just_these(self):
        for network in feasible_networks():
            told = tuple((link, network.links[link][0], index) for link in range(len(network.links))
                         for index in can_carry(network, link)[1])
            with self.subTest(text=write_network(network)):
                self.assertEqual(next_transmissions(network, ()), told)


class Wrong(unittest.TestCase):
    def test_texts_that_are_no_sets(self):
        texts = ("", "AA", "BA", "ABA", "ABB", "ACB", "CBA", "D", "AD", "ABCD", "a", "abc", "Ab", " ", "A ", " A",
                 "A B", "A,B", "1", "AB\n", "\u00c4")
        for network in (EXAMPLE, LACKING):
            for text in texts:
                with self.subTest(text=text):
                    self.assertRaises(NoSet, node_set, network, text)

    def test_all_other_texts_are_none(self):
        network = read_network("1: a | | ; AB")
        sets = reference.node_sets("ABC")
        for size in range(5):
            for row in itertools.product("ABCDa", repeat=size):
                text = "".join(row)
                with self.subTest(text=text):
                    if text in sets:
                        self.assertEqual(len(node_set(network, text)), 5)
                    else:
                        self.assertRaises(NoSet, node_set, network, text)

    def test_no_node_comes_ahead_of_not_feasible(self):
        for network in (EXAMPLE, LACKING):
            for node in OTHER_NODES:
                with self.subTest(node=node):
                    self.assertRaises(NoNode, around, network, node)
                    self.assertRaises(NoNode, without, network, node, "A")
                    self.assertRaises(NoNode, without, network, "A", node)
                    self.assertRaises(NoNode, without, network, node, node)

    def test_no_link_comes_ahead_of_not_feasible(self):
        for network in (EXAMPLE, LACKING):
            for link in (-1, -3, -4, -5, len(network.links), len(network.links) + 1, 100):
                with self.subTest(link=link):
                    self.assertRaises(NoLink, can_carry, network, link)

    def test_not_feasible(self):
        for text in DEFICIENT + GREATEST[4:]:
            network = read_network(text)
            with self.subTest(text=text):
                self.assertRaises(NotFeasible, around, network, "A")
                self.assertRaises(NotFeasible, around, network, "B")
                self.assertRaises(NotFeasible, without, network, "A", "B")
                self.assertRaises(NotFeasible, without, network, "B", "B")
                if network.links:
                    self.assertRaises(NotFeasible, can_carry, network, 0)

    def test_the_others_do_not_need_a_feasible_network(self):
        for text in DEFICIENT:
            network = read_network(text)
            self.assertEqual(len(node_set(network, "A")), 5)
            self.assertIs(type(tight_sets(network)), tuple)

    def test_a_network_of_lists(self):
        network = Network(2, [["a", "b"], [], []], ["AB", "AB", "BC", "AC"])
        self.assertEqual(tight_sets(network), ("A", "B", "C", "AB", "ABC"))
        self.assertEqual(can_carry(network, 0), ("B", (0, 1)))


if __name__ == "__main__":
    unittest.main()
