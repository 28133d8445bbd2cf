"""[I1] to [I5]: one link or message more or less, and the cheapest links."""

import functools
import itertools
import random
import unittest

from allknow.changes import (BadCosts, BadWeights, bound, cheapest, helping_links, is_feasible, reduced,
                             removable_messages, with_link, with_message)
from allknow.networks import Network, NoLink, NoNode, NoSet
from allknow.node_sets import deficient_sets, node_set
from allknow.schedules import first_schedule
from allknow.spans import BadParity
from allknow.texts import read_network
from tests import reference
from tests.samples import DEFICIENT, FEASIBLE, GREATEST, TEXTS, small_network

EXAMPLE = read_network("2: a, b | | ; AB, AB, BC, AC")
SPARE = read_network("1: a | | ; AB, AC, BC, AB, CB")
LACKING = read_network("2: a, b | | ; AB, BC, AC")

OTHER_NODES = ("", "D", "a", "AB", " ", "BA", "ABC", "1", "Z")
NO_SETS = ("", "BA", "AA", "D", "AD", "a", "A B", " ", "A,B", "CAB")
NO_LINKS = ("", "A", "AA", "AD", "DA", "ab", "ABC", "A B", " AB", "AB ", "A,B", "01", "EF")
NO_MESSAGES = ("", "ba", "aa", "c", "h", "A", " ", "a ", "ab ", "1", "\u00e4", "abc")
NO_COSTS = ((), (1, 2, 3), (1, 2, 3, 4, 5), [0], (1, 2, 3, -1), (-1, 0, 0, 0), [0, 0, -5, 0])


@functools.lru_cache(maxsize=None)
def networks():
    """Networks of all kinds, small ones above all."""
    chance = random.Random(111)
    found = [small_network(chance, 4, 3, 3, 6) for _ in range(150)]
    return found + [read_network(text) for text in FEASIBLE + DEFICIENT + TEXTS + GREATEST]


@functools.lru_cache(maxsize=None)
def feasible_networks():
    """Networks with few links in which no set is deficient."""
    chance = random.Random(112)
    found = [network for network in networks() if not deficient_sets(network) and len(network.links) <= 7]
    while len(found) < 140:
        network = small_network(chance, 4, 2, 2, 7)
        if len(network.links) > 3 and not deficient_sets(network):
            found.append(network)
    return found


def facts(network):
    return reference.network_rows(network), reference.network_links(network)


def those(links, numbers):
    return {number: links[number] for number in numbers}


@functools.lru_cache(maxsize=None)
def sets_that_suffice(network):
    """All sets of links that suffice, by trying all."""
    rows, links = facts(network)
    every = [row for size in range(len(links) + 1) for row in itertools.combinations(links, size)]
    return [row for row in every if reference.suffices(rows, those(links, row))]


def least_sets(network):
    """Of these the ones none of whose parts suffices."""
    found = sets_that_suffice(network)
    return [row for row in found if not any(set(other) < set(row) for other in found)]


def schedules_of(course, network):
    """The sets of links that the complete schedules use, by trying all of them."""
    if course.is_over():
        return {tuple(number for number in range(len(network.links)) if number not in course.links)}
    found = set()
    for transmission in course.possible():
        found = found | schedules_of(course.after(transmission), network)
    return found


def some_weights(chance, network):
    """Weights of some sets, in order."""
    sets = reference.node_sets(network.node_letters())
    chosen = [nodes for nodes in sets if chance.random() < 0.5]
    return tuple((nodes, chance.randint(1, 4)) for nodes in chosen)


def expected_bound(network, costs, weights):
    rows, links = facts(network)
    total = sum(reference.set_facts(nodes, rows, links)[1] * weight for nodes, weight in weights)
    for number, link in links.items():
        load = sum(weight for nodes, weight in weights if link[1] in nodes and link[0] not in nodes)
        total -= load - costs[number] if load > costs[number] else 0
    return total


class Examples(unittest.TestCase):
    def test_by_hand(self):
        self.assertIs(is_feasible(EXAMPLE), True)
        self.assertIs(is_feasible(LACKING), False)
        self.assertEqual(reduced(EXAMPLE), (0, 1, 2, 3))
        self.assertEqual(reduced(SPARE), (2, 3))
        self.assertIsNone(reduced(LACKING))
        self.assertIs(with_link(LACKING, "AB"), True)
        self.assertIs(with_link(LACKING, "AC"), False)
        self.assertEqual(helping_links(LACKING), ("AB", "CB"))
        self.assertEqual(helping_links(EXAMPLE), ("AB", "AC", "BA", "BC", "CA", "CB"))
        self.assertIs(with_message(LACKING, "B", "ab"), True)
        self.assertIs(with_message(LACKING, "C", "ab"), False)
        self.assertEqual(removable_messages(EXAMPLE), ())
        self.assertEqual(cheapest(EXAMPLE, (1, 2, 3, 4)), (10, (0, 1, 2, 3)))
        self.assertEqual(cheapest(SPARE, (5, 1, 1, 4, 2)), (3, (1, 4)))
        self.assertEqual(bound(SPARE, (5, 1, 1, 4, 2), (("B", 2), ("C", 1))), 3)


class LessLinks(unittest.TestCase):
    def test_is_feasible(self):
        for network in networks():
            rows, links = facts(network)
            self.assertIs(is_feasible(network), reference.suffices(rows, links))

    def test_reduced(self):
        for network in networks():
            rows, links = facts(network)
            expected = None
            if reference.suffices(rows, links):
                kept = list(links)
                for number in links:
                    others = [other for other in kept if other != number]
                    kept = others if reference.suffices(rows, those(links, others)) else kept
                expected = tuple(kept)
            with self.subTest(nodes=network.nodes, links=network.links):
                self.assertEqual(reduced(network), expected)

    def test_all_least_sets_have_the_same_size(self):
        for network in feasible_networks():
            letters = network.node_letters()
            demands = {node: node_set(network, node)[1] for node in letters}
            least = least_sets(network)
            self.assertIn(reduced(network), least)
            for row in least:
                for node in letters:
                    into = [number for number in row if network.links[number][1] == node]
                    self.assertEqual(len(into), demands[node])
            self.assertEqual(len(reduced(network)), sum(demands.values()))

    def test_least_sets_are_what_complete_schedules_use(self):
        for network in feasible_networks():
            if sum(node_set(network, node)[1] for node in network.node_letters()) <= 3:
                used = schedules_of(reference.Course(network), network)
                with self.subTest(nodes=network.nodes, links=network.links):
                    self.assertEqual(sorted(used), sorted(least_sets(network)))


class OneMore(unittest.TestCase):
    def test_each_link_more_against_sets_gone_through_anew(self):
        for network in networks():
            rows, links = facts(network)
            letters = network.node_letters()
            helping = []
            for sender, receiver in itertools.permutations(letters, 2):
                more = {**links, len(links): sender + receiver}
                helps = reference.suffices(rows, more)
                helping += [sender + receiver] if helps else []
                with self.subTest(nodes=network.nodes, links=network.links, link=sender + receiver):
                    self.assertIs(with_link(network, sender + receiver), helps)
            self.assertEqual(helping_links(network), tuple(helping))

    def test_it_helps_exactly_where_it_enters_each_deficient_set(self):
        helped = 0
        for network in networks():
            deficient = [(nodes, node_set(network, nodes)) for nodes in deficient_sets(network)]
            for sender, receiver in itertools.permutations(network.node_letters(), 2):
                enters_all = all(sender not in nodes and receiver in nodes for nodes, _ in deficient)
                one_lacks = all(told[1] - len(told[2]) == 1 for _, told in deficient)
                self.assertIs(with_link(network, sender + receiver), enters_all and one_lacks)
                helped += deficient != [] and enters_all and one_lacks
        self.assertGreater(helped, 20)

    def test_a_seventeenth_link(self):
        for text in GREATEST:
            network = read_network(text)
            self.assertEqual(len(network.links), 16)
            self.assertIs(with_link(network, "AB"), True if is_feasible(network) else "AB" in helping_links(network))
        network = read_network("1: a | | ;" + ",".join([" AB"] * 16))
        self.assertEqual(helping_links(network), ("AC", "BC"))
        self.assertIs(with_link(network, "BC"), True)
        self.assertIs(with_link(network, "CB"), False)

    def test_one_node_has_no_links(self):
        for text in ("0: ;", "1: a ;"):
            self.assertEqual(helping_links(read_network(text)), ())
            self.assertRaises(NoLink, with_link, read_network(text), "AB")

    def test_each_message_more_against_sets_gone_through_anew(self):
        for network in networks():
            rows, links = facts(network)
            every = reference.parities(network.variable_letters())[1:]
            # In the greatest networks a few are enough, as each takes its time.
            tried = every[:6] + every[-1:] if len(network.nodes) < 5 else every[-1:]
            for node in network.node_letters():
                for message in tried:
                    more = {**rows, node: rows[node] + [message]}
                    with self.subTest(nodes=network.nodes, links=network.links, node=node, message=message):
                        self.assertIs(with_message(network, node, message), reference.suffices(more, links))

    def test_a_message_that_makes_the_rank_greater(self):
        network = read_network("2: a | ; AB")
        self.assertIs(is_feasible(network), True)
        self.assertIs(with_message(network, "A", "b"), False)
        self.assertIs(with_message(network, "B", "b"), False)
        self.assertIs(with_message(network, "B", "a"), True)
        self.assertIs(with_message(read_network("2: a | ; AB, BA"), "B", "ab"), True)

    def test_a_fifth_message(self):
        network = read_network("3: a, b, c, ab | bc, abc, ac, ac ; AB")
        self.assertIs(is_feasible(network), True)
        self.assertIs(with_message(network, "A", "abc"), True)
        self.assertIs(with_message(network, "B", "c"), True)
        self.assertIs(with_message(read_network("6: a, b, c, d | a, b, c, d ;"), "A", "e"), False)
        self.assertIs(with_message(read_network("6: a, b, c, d | a, b, c, d ; AB"), "A", "e"), True)


class LessMessages(unittest.TestCase):
    def test_each_message_less_against_sets_gone_through_anew(self):
        found = 0
        for network in networks() + feasible_networks():
            rows, links = facts(network)
            rank = reference.rank(network.all_messages())
            expected = []
            for node, row in rows.items():
                for index in range(len(row)):
                    fewer = {**rows, node: row[:index] + row[index + 1:]}
                    rest = reference.rank([text for other in fewer.values() for text in other])
                    if rest == rank and reference.suffices(fewer, links):
                        expected.append((node, index))
            with self.subTest(nodes=network.nodes, links=network.links):
                self.assertEqual(removable_messages(network), tuple(expected))
            found += len(expected)
        self.assertGreater(found, 50)

    def test_by_hand(self):
        self.assertEqual(removable_messages(read_network("1: a, a ;")), (("A", 0), ("A", 1)))
        self.assertEqual(removable_messages(read_network("1: a ;")), ())
        self.assertEqual(removable_messages(read_network("1: a | a ; AB")), (("B", 0),))
        self.assertEqual(removable_messages(read_network("2: a, b, ab | ; AB")), ())
        self.assertEqual(removable_messages(read_network("2: a, b, ab | ; AB, AB")), (("A", 0), ("A", 1), ("A", 2)))


class Cheapest(unittest.TestCase):
    def check(self, network, costs):
        rows = [(sum(costs[number] for number in row), len(row), row) for row in sets_that_suffice(network)]
        cost, _, row = min(rows)
        with self.subTest(nodes=network.nodes, links=network.links, costs=costs):
            self.assertEqual(cheapest(network, costs), (cost, row))

    def test_against_a_trying_of_all_sets_of_links(self):
        chance = random.Random(113)
        for network in feasible_networks():
            for most in (0, 1, 2, 3, 9, 1000):
                self.check(network, tuple(chance.randint(0, most) for _ in network.links))
            self.check(network, [chance.choice((0, 0, 5)) for _ in network.links])

    def test_networks_that_are_not_feasible(self):
        for text in DEFICIENT:
            network = read_network(text)
            self.assertIsNone(cheapest(network, (1,) * len(network.links)))

    def test_costs_of_0(self):
        self.assertEqual(cheapest(SPARE, (0, 0, 0, 0, 0)), (0, (0, 1)))
        self.assertEqual(cheapest(SPARE, (1, 0, 0, 0, 0)), (0, (1, 3)))
        self.assertEqual(cheapest(SPARE, [1, 0, 0, 1, 0]), (0, (1, 4)))
        self.assertEqual(cheapest(EXAMPLE, (0, 0, 0, 0)), (0, (0, 1, 2, 3)))
        self.assertEqual(cheapest(read_network("0: | ; AB"), (0,)), (0, ()))
        self.assertEqual(cheapest(read_network("0: | ; AB"), (3,)), (0, ()))
        self.assertEqual(cheapest(read_network("1: a ;"), ()), (0, ()))

    def test_several_as_cheap(self):
        network = read_network("1: a | ; AB, AB, AB")
        self.assertEqual(cheapest(network, (2, 2, 2)), (2, (0,)))
        self.assertEqual(cheapest(network, (3, 2, 2)), (2, (1,)))
        self.assertEqual(cheapest(SPARE, (1, 1, 1, 1, 1)), (2, (0, 1)))

    def test_great_costs(self):
        great = 10 ** 40
        self.assertEqual(cheapest(SPARE, (great, 1, great, great - 1, great)), (great, (1, 3)))

    def test_links_of_the_first_schedule_cost_no_less(self):
        chance = random.Random(114)
        for text in FEASIBLE + GREATEST[:4]:
            network = read_network(text)
            costs = tuple(chance.randint(0, 20) for _ in network.links)
            cost, links = cheapest(network, costs)
            self.assertEqual(cost, sum(costs[number] for number in links))
            used = [number for number, _, _ in first_schedule(network)]
            self.assertLessEqual(cost, sum(costs[number] for number in used))
            self.assertEqual(len(links), len(used))
            fewer = Network(network.variables, network.nodes, [network.links[number] for number in links])
            self.assertIs(is_feasible(fewer), True)


class Bound(unittest.TestCase):
    def test_by_hand(self):
        self.assertEqual(bound(SPARE, (5, 1, 1, 4, 2), ()), 0)
        self.assertEqual(bound(SPARE, (5, 1, 1, 4, 2), [["B", 1]]), 1)
        self.assertEqual(bound(SPARE, (0, 0, 0, 0, 0), (("B", 1),)), -2)
        self.assertEqual(bound(SPARE, (0, 0, 0, 0, 0), (("B", 1), ("C", 1), ("BC", 1))), -5)
        self.assertEqual(bound(EXAMPLE, (1, 1, 1, 1), (("A", 5), ("ABC", 7))), 0)

    def test_against_the_words_of_the_document(self):
        chance = random.Random(115)
        below = 0
        for network in networks():
            for _ in range(3):
                costs = tuple(chance.randint(0, 6) for _ in network.links)
                weights = some_weights(chance, network)
                told = bound(network, costs, weights)
                self.assertEqual(told, expected_bound(network, costs, weights))
                self.assertEqual(bound(network, list(costs), [list(pair) for pair in weights]), told)
                below += told < 0
                if is_feasible(network):
                    self.assertLessEqual(told, cheapest(network, costs)[0])
        self.assertGreater(below, 20)

    def test_some_weights_have_what_the_cheapest_links_cost(self):
        chance = random.Random(116)
        for network in feasible_networks():
            if len(network.nodes) > 3 or not network.links:
                continue
            costs = tuple(chance.randint(0, 2) for _ in network.links)
            sets = [nodes for nodes in reference.node_sets(network.node_letters()) if node_set(network, nodes)[1]]
            best = 0
            for row in itertools.product(range(sum(costs) + 1 if len(sets) < 3 else 3), repeat=len(sets)):
                weights = tuple((nodes, weight) for nodes, weight in zip(sets, row) if weight)
                best = max(best, bound(network, costs, weights))
            with self.subTest(nodes=network.nodes, links=network.links, costs=costs):
                self.assertEqual(best, cheapest(network, costs)[0])


class WrongArguments(unittest.TestCase):
    def test_texts_that_are_no_links(self):
        for text in NO_LINKS:
            for network in (EXAMPLE, LACKING):
                with self.subTest(text=text):
                    self.assertRaises(NoLink, with_link, network, text)

    def test_texts_that_are_no_nodes(self):
        for node in OTHER_NODES:
            for message in ("a", "ba", ""):
                with self.subTest(node=node, message=message):
                    self.assertRaises(NoNode, with_message, EXAMPLE, node, message)

    def test_texts_that_are_no_messages(self):
        for text in NO_MESSAGES:
            with self.subTest(text=text):
                with self.assertRaises(BadParity) as caught:
                    with_message(EXAMPLE, "B", text)
                self.assertEqual(caught.exception.text, text)
        self.assertRaises(BadParity, with_message, read_network("0: ;"), "A", "a")

    def test_costs_that_are_none(self):
        for costs in NO_COSTS:
            for network in (EXAMPLE, read_network("1: a | ; BA, BA, BA, BA")):
                with self.subTest(costs=costs):
                    self.assertRaises(BadCosts, cheapest, network, costs)
                    self.assertRaises(BadCosts, bound, network, costs, ())
        self.assertRaises(BadCosts, cheapest, read_network("1: a ;"), (0,))
        self.assertRaises(BadCosts, cheapest, LACKING, (0, -1, 0))

    def check(self, weights, number):
        with self.subTest(weights=weights):
            with self.assertRaises(BadWeights) as caught:
                bound(EXAMPLE, (1, 1, 1, 1), weights)
            self.assertEqual(caught.exception.number, number)

    def test_weights_that_are_none(self):
        self.check((("A", 0),), 0)
        self.check((("A", -1),), 0)
        self.check((("A", 1), ("B", 0)), 1)
        self.check((("B", 1), ("A", 1)), 1)
        self.check((("A", 1), ("A", 1)), 1)
        self.check([["A", 1], ["AB", 2], ["AB", 2]], 2)
        self.check((("A", 1), ("AB", 1), ("C", 1)), 2)
        self.check((("A", 1), ("AC", 1), ("AB", 1), ("A", 0)), 2)
        self.check((("A", 1), ("BC", 1), ("AC", 1)), 2)
        self.check((("ABC", 1), ("A", 1)), 1)
        self.check((("B", 0), ("A", 1)), 0)
        self.check((("B", 1), ("A", 0), ("C", -1)), 1)

    def test_weights_in_order(self):
        sets = reference.node_sets("ABC")
        told = tuple((nodes, 1) for nodes in sets)
        self.assertEqual(bound(EXAMPLE, (9, 9, 9, 9), told), sum(node_set(EXAMPLE, nodes)[1] for nodes in sets))
        for at in range(len(sets) - 1):
            turned = told[:at] + (told[at + 1], told[at]) + told[at + 2:]
            self.check(turned, at + 1)

    def test_the_first_error_where_several_are_due(self):
        for nodes in NO_SETS:
            for weights in (((nodes, 1),), (("B", 0), (nodes, 1)), (("B", 1), ("A", 1), (nodes, 0)), [[nodes, 0]]):
                with self.subTest(weights=weights):
                    self.assertRaises(NoSet, bound, EXAMPLE, (1, 1, 1, 1), weights)
                    self.assertRaises(BadCosts, bound, EXAMPLE, (1, 1, 1), weights)
                    self.assertRaises(BadCosts, bound, EXAMPLE, (1, 1, 1, -1), weights)
        self.assertRaises(BadCosts, bound, EXAMPLE, (1, 1, 1), (("B", 0),))


if __name__ == "__main__":
    unittest.main()
