"""[G1] to [G4]: how many messages somebody who knows all of them has to put in, where, and which."""

import itertools
import random
import unittest

from allknow.injections import (BadCounts, NotDisjoint, certificate, deficient_set, injections, lower_bound,
                                minimum_counts, reduced_counts)
from allknow.networks import Network, NoSet
from allknow.node_sets import deficient_sets, first_deficient
from allknow.schedules import first_schedule
from allknow.texts import read_network
from tests import reference
from tests.samples import DEFICIENT, FEASIBLE, GREATEST, TEXTS, small_network

EXAMPLE = read_network("2: a | b | ; AB, BC")

NO_SETS = ("", "BA", "AA", "D", "AD", "a", "A B", " ", "A,B", "CAB")
NO_COUNTS = ((), (1,), (1, 0), (1, 0, 1, 0), [1, 0, 1, 1], (1, 0, -1), (-1, 5, 5), (True, 0, 1), (1, False, 1),
             (1, 0, True), ("1", "0", "1"), (1, 0, None), (1, 0, 1.0), ("a", "b", "c"), (1, (0,), 1))


class Wide:
    """What the reference asks of a network, with as many messages at a node as there may be."""

    def __init__(self, network, put_in):
        self.links = network.links
        self.rows = {node: list(network.messages(node)) for node in network.node_letters()}
        for node, message in put_in:
            self.rows[node].append(message)

    def node_letters(self):
        return "".join(self.rows)

    def messages(self, node):
        return tuple(self.rows[node])

    def all_messages(self):
        return [text for row in self.rows.values() for text in row]


def first_short(network, counts):
    """The first set whose supply is less than its demand, or None."""
    letters = network.node_letters()
    for nodes, (_, demand, links, _, _) in reference.network_facts(network).items():
        if len(links) + sum(counts[letters.index(node)] for node in nodes) < demand:
            return nodes
    return None


def supplies(network, counts):
    """For each set how much its supply is more than its demand."""
    letters = network.node_letters()
    return {nodes: len(links) + sum(counts[letters.index(node)] for node in nodes) - demand
            for nodes, (_, demand, links, _, _) in reference.network_facts(network).items()}


def is_enough(margins, letters, counts):
    """Whether counts are sufficient, by the supplies without any."""
    return all(margins[nodes] + sum(counts[letters.index(node)] for node in nodes) >= 0 for nodes in margins)


def all_minimum_counts(network):
    """The minimum counts by trying all counts, those with smaller sums first."""
    letters = network.node_letters()
    margins = supplies(network, (0,) * len(letters))
    rank = reference.rank(network.all_messages())
    every = itertools.product(range(rank + 1), repeat=len(letters))
    return min((sum(counts), counts) for counts in every if is_enough(margins, letters, counts))[1]


def lowered_one_by_one(network, counts):
    letters = network.node_letters()
    margins = supplies(network, (0,) * len(letters))
    counts = list(counts)
    for number in range(len(counts)):
        while counts[number] > 0 and is_enough(margins, letters,
                                               counts[:number] + [counts[number] - 1] + counts[number + 1:]):
            counts[number] -= 1
    return tuple(counts)


def expected_certificate(network, counts):
    letters = network.node_letters()
    tight = [nodes for nodes, more in supplies(network, counts).items() if more == 0]
    found = []
    for number, node in enumerate(letters):
        if counts[number] > 0:
            found.append(max((nodes for nodes in tight if node in nodes), key=len))
    return tuple(nodes for nodes in reference.node_sets(letters) if nodes in found)


def works(network, put_in):
    return not reference.Course(Wide(network, put_in)).deficient()


def expected_injections(network, counts):
    """The first tuple of injections that works, by trying all, or None."""
    nodes = [node for node, count in zip(network.node_letters(), counts) for _ in range(count)]
    texts = list(dict.fromkeys(network.all_messages()))
    for messages in itertools.product(texts, repeat=len(nodes)):
        put_in = tuple(zip(nodes, messages))
        if works(network, put_in):
            return put_in
    return None


def greedy_schedule(network, put_in):
    """The first transmission after which no set is deficient, again and again."""
    course = reference.Course(Wide(network, put_in))
    schedule = []
    while not course.is_over():
        schedule.append(course.next_ones()[0])
        course = course.after(schedule[-1])
    return tuple(schedule)


def small_networks(count, seed):
    chance = random.Random(seed)
    found = [small_network(chance, 4, 3, 2, 5) for _ in range(count)]
    return found + [read_network(text) for text in DEFICIENT + FEASIBLE if text.count("|") < 4 and text[0] < "4"]


def samples():
    return [read_network(text) for text in FEASIBLE + DEFICIENT + TEXTS + GREATEST]


class Examples(unittest.TestCase):
    def test_the_examples_of_the_document(self):
        self.assertEqual(minimum_counts(EXAMPLE), (1, 0, 1))
        self.assertEqual(certificate(EXAMPLE), ("A", "C"))
        self.assertEqual(lower_bound(EXAMPLE, ("A", "BC")), 1)
        self.assertEqual(reduced_counts(EXAMPLE, (2, 2, 2)), (1, 0, 1))
        self.assertEqual(deficient_set(EXAMPLE, (0, 5, 5)), "A")
        self.assertEqual(injections(EXAMPLE, (1, 0, 1)),
                         ((("A", "b"), ("C", "a")), ((0, "A", 0), (1, "B", 0))))

    def test_the_others_for_the_same_network(self):
        self.assertIsNone(deficient_set(EXAMPLE, (1, 0, 1)))
        self.assertEqual(deficient_set(EXAMPLE, (1, 1, 0)), "C")
        self.assertEqual(lower_bound(EXAMPLE, ("A", "C")), 2)
        self.assertEqual(lower_bound(EXAMPLE, ("A", "B", "C")), 2)
        self.assertEqual(injections(EXAMPLE, [2, 2, 2]), injections(EXAMPLE, (1, 0, 1)))
        self.assertIsNone(injections(EXAMPLE, (0, 5, 5)))
        self.assertIsNone(reduced_counts(EXAMPLE, (0, 5, 5)))


class Sufficient(unittest.TestCase):
    def test_against_all_sets(self):
        chance = random.Random(81)
        for network in small_networks(150, 82):
            for _ in range(4):
                counts = tuple(chance.randint(0, 3) for _ in network.nodes)
                short = first_short(network, counts)
                with self.subTest(nodes=network.nodes, links=network.links, counts=counts):
                    self.assertEqual(deficient_set(network, counts), short)
                    self.assertEqual(deficient_set(network, list(counts)), short)
                    self.assertEqual(reduced_counts(network, counts),
                                     None if short else lowered_one_by_one(network, counts))
                    if short:
                        self.assertIsNone(injections(network, counts))

    def test_counts_short_by_each_set(self):
        for text in DEFICIENT + ("1: a | | | ;", "2: a, b | | | ; AB, BC", "2: ab | a | | ; CD, DC"):
            network = read_network(text)
            letters = network.node_letters()
            rank = reference.rank(network.all_messages())
            for nodes, (_, demand, links, _, is_deficient) in reference.network_facts(network).items():
                # Elsewhere as much as anybody could want, in this set just too little, at its last node.
                counts = [rank] * len(letters)
                for node in nodes:
                    counts[letters.index(node)] = 0
                if is_deficient:
                    counts[letters.index(nodes[-1])] = demand - len(links) - 1
                    with self.subTest(text=text, nodes=nodes):
                        self.assertEqual(deficient_set(network, counts), first_short(network, counts))
                        self.assertIsNotNone(deficient_set(network, counts))
                        self.assertIsNone(reduced_counts(network, counts))

    def test_no_counts_at_all(self):
        for network in samples():
            none = (0,) * len(network.nodes)
            self.assertEqual(deficient_set(network, none), first_deficient(network))
            self.assertEqual(reduced_counts(network, none), None if deficient_sets(network) else none)

    def test_great_counts(self):
        great = 10 ** 30
        self.assertIsNone(deficient_set(EXAMPLE, (great, great, great)))
        self.assertEqual(reduced_counts(EXAMPLE, (great, great, great)), (1, 0, 1))
        self.assertEqual(reduced_counts(EXAMPLE, (1, great, 1)), (1, 0, 1))

    def test_one_node(self):
        network = read_network("2: a, b ;")
        self.assertIsNone(deficient_set(network, (0,)))
        self.assertEqual(reduced_counts(network, (7,)), (0,))
        self.assertEqual(minimum_counts(network), (0,))
        self.assertEqual(certificate(network), ())
        self.assertEqual(injections(network, (7,)), ((), ()))


class Minimum(unittest.TestCase):
    def test_against_a_trying_of_all_counts(self):
        for network in small_networks(200, 83):
            expected = all_minimum_counts(network)
            with self.subTest(nodes=network.nodes, links=network.links):
                self.assertEqual(minimum_counts(network), expected)
                self.assertEqual(certificate(network), expected_certificate(network, expected))

    def test_all_0_exactly_if_no_set_is_deficient(self):
        for network in samples() + small_networks(50, 84):
            counts = minimum_counts(network)
            self.assertEqual(sum(counts) == 0, deficient_sets(network) == ())
            self.assertEqual(certificate(network) == (), sum(counts) == 0)

    def test_the_certificate_proves_it(self):
        for network in samples() + small_networks(100, 85):
            counts = minimum_counts(network)
            sets = certificate(network)
            with self.subTest(nodes=network.nodes, links=network.links):
                self.assertIsNone(deficient_set(network, counts))
                self.assertEqual(lower_bound(network, sets), sum(counts))
                self.assertEqual(sets, expected_certificate(network, counts))
                for first, second in itertools.combinations(sets, 2):
                    self.assertEqual(set(first) & set(second), set())

    def test_a_set_that_proves_it_for_two_nodes(self):
        network = read_network("2: a, b | | | ; BC, CB, BC, CB")
        self.assertEqual(minimum_counts(network), (0, 0, 2, 2))
        self.assertEqual(certificate(network), ("D", "BC"))
        network = read_network("2: a, b | | ; BC, CB, BC, CB")
        self.assertEqual(minimum_counts(network), (0, 0, 2))
        self.assertEqual(certificate(network), ("BC",))
        self.assertEqual(minimum_counts(read_network("2: a, b | | ; BC, CB")), (0, 1, 1))
        self.assertEqual(certificate(read_network("2: a, b | | ; BC, CB")), ("BC",))

    def test_reduced_counts_have_the_least_sum(self):
        chance = random.Random(86)
        for network in samples():
            least = sum(minimum_counts(network))
            for _ in range(5):
                counts = tuple(chance.randint(2, 6) for _ in network.nodes)
                if deficient_set(network, counts) is None:
                    self.assertEqual(sum(reduced_counts(network, counts)), least)

    def test_reduced_from_the_first_node_to_the_last(self):
        network = read_network("1: | | a ; AB, BA")
        self.assertEqual(reduced_counts(network, (1, 1, 0)), (0, 1, 0))
        self.assertEqual(reduced_counts(network, (1, 0, 4)), (1, 0, 0))
        self.assertEqual(reduced_counts(network, (0, 3, 4)), (0, 1, 0))


class LowerBound(unittest.TestCase):
    def test_the_sum_of_the_shortfalls(self):
        chance = random.Random(87)
        for network in samples():
            facts = reference.network_facts(network)
            letters = chance.sample(network.node_letters(), len(network.nodes))
            sets = []
            while letters:
                cut = chance.randint(1, len(letters))
                sets.append("".join(sorted(letters[:cut])))
                letters = letters[cut:]
            for told in (sets, tuple(sets), sets[1:], sets[:1]):
                expected = sum(facts[nodes][1] - len(facts[nodes][2]) for nodes in told)
                self.assertEqual(lower_bound(network, told), expected)
                self.assertLessEqual(expected, sum(minimum_counts(network)))

    def test_edges(self):
        self.assertEqual(lower_bound(EXAMPLE, ()), 0)
        self.assertEqual(lower_bound(EXAMPLE, []), 0)
        self.assertEqual(lower_bound(EXAMPLE, ("ABC",)), 0)
        self.assertEqual(lower_bound(read_network("0: | ; AB, AB, BA"), ("B",)), -2)
        self.assertEqual(lower_bound(read_network("0: | ; AB, AB, BA"), ["B", "A"]), -3)

    def test_sets_with_common_nodes(self):
        for sets in (("A", "A"), ("A", "AB"), ("ABC", "C"), ("A", "B", "BC"), ("AB", "C", "A"), ("BC", "ABC")):
            with self.subTest(sets=sets):
                self.assertRaises(NotDisjoint, lower_bound, EXAMPLE, sets)

    def test_texts_that_are_no_sets_ahead_of_common_nodes(self):
        for nodes in NO_SETS:
            for sets in ((nodes,), ("A", nodes), ("A", "A", nodes), (nodes, "A", "A"), ["AB", "BC", nodes]):
                with self.subTest(sets=sets):
                    self.assertRaises(NoSet, lower_bound, EXAMPLE, sets)


class Injections(unittest.TestCase):
    def check(self, network, counts):
        reduced = reduced_counts(network, counts)
        put_in, schedule = injections(network, counts)
        with self.subTest(nodes=network.nodes, links=network.links, counts=counts):
            self.assertEqual([node for node, _ in put_in],
                             [node for node, count in zip(network.node_letters(), reduced) for _ in range(count)])
            self.assertTrue(works(network, put_in))
            self.assertEqual(schedule, greedy_schedule(network, put_in))
        return put_in, schedule

    def test_against_a_trying_of_all_tuples(self):
        chance = random.Random(88)
        longest = 0
        for network in small_networks(220, 89):
            counts = tuple(chance.randint(0, 4) for _ in network.nodes)
            for told in (counts, minimum_counts(network)):
                reduced = reduced_counts(network, told)
                if reduced is not None and sum(reduced) <= 4:
                    put_in, schedule = self.check(network, told)
                    self.assertEqual(put_in, expected_injections(network, reduced))
                    longest = max(longest, len(put_in))
                    if len(schedule) <= 4:
                        course = reference.Course(Wide(network, put_in))
                        self.assertEqual(schedule, reference.first_complete(course))
        self.assertEqual(longest, 4)

    def test_the_network_with_them(self):
        for network in small_networks(60, 90):
            put_in, schedule = injections(network, minimum_counts(network))
            rows = [list(row) for row in network.nodes]
            for node, message in put_in:
                rows[network.node_letters().index(node)].append(message)
            if max(len(row) for row in rows) <= 4:
                self.assertEqual(schedule, first_schedule(Network(network.variables, rows, network.links)))

    def test_counts_that_need_nothing(self):
        for text in FEASIBLE:
            network = read_network(text)
            for count in (0, 3):
                told = injections(network, (count,) * len(network.nodes))
                self.assertEqual(told, ((), first_schedule(network)))

    def test_a_node_that_has_more_than_four_messages_then(self):
        network = read_network("6: a, b, ab, a | c, d, e, f ;")
        put_in, schedule = injections(network, (9, 9))
        self.assertEqual(put_in, (("A", "c"), ("A", "d"), ("A", "e"), ("A", "f"), ("B", "a"), ("B", "b")))
        self.assertEqual(schedule, ())
        # What was put in is told by the index that it has behind the four.
        network = read_network("6: a, b, ab, a | c | ; AC, AC, AC")
        put_in, schedule = self.check(network, (1, 2, 0))
        self.assertEqual(put_in, (("A", "c"), ("B", "a"), ("B", "b")))
        self.assertEqual(schedule, ((0, "A", 0), (1, "A", 1), (2, "A", 4)))

    def test_the_same_message_at_several_nodes(self):
        network = read_network("1: a | | | ;")
        self.assertEqual(injections(network, (0, 1, 1, 1)), ((("B", "a"), ("C", "a"), ("D", "a")), ()))
        network = read_network("2: ab, ab | a | ;")
        self.assertEqual(injections(network, (1, 1, 2)), ((("A", "a"), ("B", "ab"), ("C", "ab"), ("C", "a")), ()))

    def test_greatest(self):
        # Without links, as much has to be put in as can be.
        network = read_network("6: a, b, c, d | e | f | | | ;")
        self.assertEqual(minimum_counts(network), (2, 5, 5, 6, 6, 6))
        self.assertEqual(len(injections(network, (6,) * 6)[0]), 30)
        for network in [network] + [read_network(text) for text in GREATEST]:
            put_in, schedule = injections(network, minimum_counts(network))
            self.assertTrue(works(network, put_in))
            course = reference.Course(Wide(network, put_in))
            for transmission in schedule:
                self.assertIsNone(course.wrong(transmission))
                course = course.after(transmission)
            self.assertTrue(course.is_over())
            self.assertEqual(injections(network, (6,) * 6)[0], put_in)


class WrongCounts(unittest.TestCase):
    def test_counts_that_are_none(self):
        for counts in NO_COUNTS:
            for function in (deficient_set, reduced_counts, injections):
                with self.subTest(counts=counts, function=function.__name__):
                    self.assertRaises(BadCounts, function, EXAMPLE, counts)

    def test_they_come_ahead_of_counts_that_do_not_suffice(self):
        for counts in ((0, 0, -1), (0, 0), (0, 0, 0, 0), (0, 0, False)):
            for function in (deficient_set, reduced_counts, injections):
                self.assertRaises(BadCounts, function, EXAMPLE, counts)


if __name__ == "__main__":
    unittest.main()
