"""[J1] to [J4]: how single nodes come to know all messages."""

import functools
import random
import unittest

from allknow.changes import is_feasible
from allknow.networks import NoLink, NoMessage, NoNode, NoSet
from allknow.node_sets import deficient_sets, first_deficient, node_set
from allknow.protocols import Relay
from allknow.schedules import first_schedule, is_complete
from allknow.targets import (NoTarget, critical_links, delivery, feasible_alone, first_set, is_complete_for,
                             is_feasible_for)
from allknow.texts import read_network
from tests import reference
from tests.samples import DEFICIENT, FEASIBLE, GREATEST, TEXTS, small_network

BUTTERFLY = read_network("2: a | b | | ; AC, BC, CD, DA, DB")
EXAMPLE = read_network("2: a, b | | ; AB, AB, BC, AC")
# B gets too little, C enough.
HALF = read_network("2: a, b | | ; AB, AC, AC, BC")

TO_A = ((1, "B", 0), (2, "B", 0), (3, "B", 0))
TO_B = ((0, "A", 0), (2, "A", 0), (4, "A", 0))

NO_SETS = ("", "BA", "AA", "E", "AE", "a", "A B", " ", "A,B", "CAB", "AAB", "ABA")
NO_TARGETS = ("", "C", "AB", "a", "D", "E", " ", "BA", "A ")


@functools.lru_cache(maxsize=None)
def networks():
    """Networks of all kinds, many of them feasible for some nodes only."""
    chance = random.Random(121)
    found = [small_network(chance, 5, 3, 2, 9) for _ in range(250)]
    texts = FEASIBLE + DEFICIENT + TEXTS
    return [BUTTERFLY, EXAMPLE, HALF] + found + [read_network(text) for text in texts if text.count("|") < 5]


def some_targets(chance, network, count):
    """Some sets of targets, all nodes among them."""
    sets = reference.node_sets(network.node_letters())
    return {chance.choice(sets) for _ in range(count)} | {network.node_letters(), sets[0]}


def has_target(nodes, targets):
    return bool(set(nodes) & set(targets))


def deficient_with(course, targets):
    return [nodes for nodes in course.deficient() if has_target(nodes, targets)]


def knows_all(course, target):
    return reference.rank(course.rows[target]) == reference.rank(course.network.all_messages())


def expected_delivery(network, target):
    """The delivery by the words of [J3]."""
    course = reference.Course(network)
    if deficient_with(course, target):
        return None
    taken = []
    while not knows_all(course, target):
        for transmission in course.possible():
            after = course.after(transmission)
            if not deficient_with(after, target):
                break
        else:
            raise AssertionError("no transmission is left")
        taken.append(transmission)
        course = after
    stay = []
    for transmission in reversed(taken):
        receiver = network.links[transmission[0]][1]
        carried_on = [later for later in stay
                      if network.links[later[0]][0] == receiver and later[1:] == transmission[1:]]
        if receiver == target or carried_on:
            stay.insert(0, transmission)
    return tuple(stay)


def is_complete_by_reference(network, targets, transmissions):
    course = reference.Course(network)
    for transmission in transmissions:
        if course.wrong(transmission):
            return False
        course = course.after(transmission)
    return all(knows_all(course, target) for target in targets)


def can_be_completed(course, targets):
    """Whether some transmissions are complete for the targets, by trying all."""
    if all(knows_all(course, target) for target in targets):
        return True
    return any(can_be_completed(course.after(transmission), targets) for transmission in course.possible())


class Examples(unittest.TestCase):
    def test_the_example_of_the_document(self):
        self.assertIsNone(first_set(BUTTERFLY, "AB"))
        self.assertIs(is_feasible_for(BUTTERFLY, "AB"), True)
        self.assertEqual(critical_links(BUTTERFLY, "AB"), (0, 1, 2, 3, 4))
        self.assertEqual(delivery(BUTTERFLY, "AB", "A"), TO_A)
        self.assertEqual(delivery(BUTTERFLY, "AB", "B"), TO_B)

    def test_the_others_for_the_same_network(self):
        self.assertEqual(feasible_alone(BUTTERFLY, "AB"), "AB")
        self.assertEqual(feasible_alone(BUTTERFLY, "ABCD"), "ABC")
        self.assertEqual(first_set(BUTTERFLY, "ABD"), "D")
        self.assertEqual(first_set(BUTTERFLY, "D"), "D")
        self.assertIs(is_feasible_for(BUTTERFLY, "CD"), False)
        self.assertIsNone(critical_links(BUTTERFLY, "BD"))
        self.assertEqual(critical_links(BUTTERFLY, "A"), (1, 2, 3))
        self.assertEqual(critical_links(BUTTERFLY, "C"), (0, 1))
        self.assertIsNone(delivery(BUTTERFLY, "AD", "D"))
        self.assertEqual(delivery(BUTTERFLY, "AD", "A"), TO_A)
        self.assertIs(is_complete_for(BUTTERFLY, "A", TO_A), True)
        self.assertIs(is_complete_for(BUTTERFLY, "AB", TO_A), False)

    def test_only_a_sum_serves_both(self):
        self.assertFalse(can_be_completed(reference.Course(BUTTERFLY), "AB"))
        relay = Relay(BUTTERFLY, ((0, "0"), (1, "0"), (2, "0^1"), (3, "0"), (4, "0")))
        self.assertEqual(relay.decoders(), "ABC")


class Feasible(unittest.TestCase):
    def test_against_all_sets(self):
        chance = random.Random(122)
        for network in networks() + [read_network(text) for text in GREATEST]:
            deficient = [nodes for nodes, told in reference.network_facts(network).items() if told[4]]
            for targets in some_targets(chance, network, 4):
                with_one = [nodes for nodes in deficient if has_target(nodes, targets)]
                alone = [target for target in targets if not any(target in nodes for nodes in deficient)]
                with self.subTest(nodes=network.nodes, links=network.links, targets=targets):
                    self.assertEqual(first_set(network, targets), with_one[0] if with_one else None)
                    self.assertIs(is_feasible_for(network, targets), not with_one)
                    self.assertEqual(feasible_alone(network, targets), "".join(alone))
                    self.assertEqual(is_feasible_for(network, targets), len(alone) == len(targets))

    def test_for_all_nodes(self):
        for network in networks():
            everybody = network.node_letters()
            self.assertEqual(first_set(network, everybody), first_deficient(network))
            self.assertIs(is_feasible_for(network, everybody), is_feasible(network))

    def test_a_set_with_a_target_and_others(self):
        # B alone lacks nothing, but what comes to B and C comes from A over a single link.
        network = read_network("2: a, b | | ; AB, BC, CB, CB")
        self.assertEqual(deficient_sets(network), ("C", "BC"))
        self.assertEqual(first_set(network, "B"), "BC")
        self.assertEqual(first_set(network, "AB"), "BC")
        self.assertEqual(first_set(network, "BC"), "C")
        self.assertIsNone(first_set(network, "A"))
        self.assertEqual(feasible_alone(network, "ABC"), "A")
        self.assertEqual(feasible_alone(network, "BC"), "")

    def test_feasible_for_some_nodes_only(self):
        self.assertEqual(feasible_alone(HALF, "ABC"), "AC")
        self.assertEqual(feasible_alone(HALF, "B"), "")
        self.assertEqual(first_set(HALF, "ABC"), "B")
        self.assertIsNone(first_set(HALF, "AC"))
        self.assertIsNone(delivery(HALF, "BC", "B"))
        self.assertEqual(delivery(HALF, "BC", "C"), ((1, "A", 0), (2, "A", 1)))


class Critical(unittest.TestCase):
    def test_against_a_leaving_out_of_each(self):
        chance = random.Random(123)
        found = 0
        for network in networks():
            for targets in some_targets(chance, network, 2):
                course = reference.Course(network)
                expected = None
                if not deficient_with(course, targets):
                    expected = tuple(number for number in course.links
                                     if deficient_with(course.without((number,)), targets))
                    found += 0 < len(expected) < len(course.links)
                with self.subTest(nodes=network.nodes, links=network.links, targets=targets):
                    self.assertEqual(critical_links(network, targets), expected)
        self.assertGreater(found, 30)

    def test_none_are(self):
        self.assertEqual(critical_links(read_network("1: a ;"), "A"), ())
        self.assertEqual(critical_links(read_network("1: a | ; AB, AB"), "AB"), ())
        self.assertEqual(critical_links(read_network("1: a | ; AB"), "A"), ())
        self.assertEqual(critical_links(read_network("1: a | ; AB"), "B"), (0,))


class Delivery(unittest.TestCase):
    def test_against_the_words_of_the_document(self):
        lengths = []
        for network in networks():
            letters = network.node_letters()
            for target in letters:
                expected = expected_delivery(network, target)
                with self.subTest(nodes=network.nodes, links=network.links, target=target):
                    self.assertEqual(delivery(network, target, target), expected)
                    self.assertEqual(delivery(network, letters, target), expected)
                    if expected is not None:
                        self.check(network, target, expected)
                        lengths.append(len(expected))
        self.assertGreater(max(lengths), 4)
        self.assertGreater(len(lengths), 200)

    def check(self, network, target, told):
        self.assertIs(is_complete_for(network, target, told), True)
        to_target = [link for link, _, _ in told if network.links[link][1] == target]
        self.assertEqual(len(to_target), node_set(network, target)[1])
        for at in range(len(told)):
            self.assertIs(is_complete_for(network, target, told[:at] + told[at + 1:]), False)

    def test_where_nothing_is_left_out(self):
        self.assertEqual(delivery(EXAMPLE, "C", "C"), ((0, "A", 0), (2, "A", 0), (3, "A", 1)))
        self.assertEqual(delivery(EXAMPLE, "ABC", "A"), ())
        self.assertEqual(delivery(EXAMPLE, "AB", "B"), ((0, "A", 0), (1, "A", 1)))

    def test_where_something_is_left_out(self):
        network = read_network("1: a | | ; AB, AC, BC")
        self.assertEqual(delivery(network, "C", "C"), ((1, "A", 0),))
        network = read_network("1: a | | | ; AB, BC, AD, CD")
        self.assertEqual(delivery(network, "CD", "C"), ((0, "A", 0), (1, "A", 0)))
        self.assertEqual(delivery(network, "CD", "D"), ((2, "A", 0),))
        # Both messages come to B, but only one of them leads on.
        network = read_network("2: a, b | | ; AB, AB, AC, BC")
        self.assertEqual(delivery(network, "C", "C"), ((1, "A", 1), (2, "A", 0), (3, "A", 1)))

    def test_the_greatest(self):
        for text in GREATEST:
            network = read_network(text)
            for target in network.node_letters():
                told = delivery(network, "ABCDEF", target)
                self.assertEqual(told is None, not is_feasible_for(network, target))
                if told is not None:
                    self.check(network, target, told)


class Complete(unittest.TestCase):
    def test_by_chance(self):
        chance = random.Random(124)
        complete = 0
        for network in networks():
            course = reference.Course(network)
            row = []
            possible = course.possible()
            while possible and chance.random() < 0.9:
                row.append(chance.choice(possible))
                course = course.after(row[-1])
                possible = course.possible()
            for targets in some_targets(chance, network, 3):
                for told in (tuple(row), row[1:], row[:-1], [list(one) for one in row], row + row[:1], row[::-1]):
                    expected = is_complete_by_reference(network, targets, [tuple(one) for one in told])
                    with self.subTest(nodes=network.nodes, links=network.links, targets=targets, told=told):
                        self.assertIs(is_complete_for(network, targets, told), expected)
                    complete += expected
        self.assertGreater(complete, 100)

    def test_that_miss_one_or_hold_one_twice(self):
        self.assertIs(is_complete_for(BUTTERFLY, "A", TO_A[:2]), False)
        self.assertIs(is_complete_for(BUTTERFLY, "A", TO_A[1:]), False)
        self.assertIs(is_complete_for(BUTTERFLY, "A", TO_A + TO_A[:1]), False)
        self.assertIs(is_complete_for(BUTTERFLY, "A", TO_A[:1] + TO_A), False)
        self.assertIs(is_complete_for(BUTTERFLY, "A", TO_A + ((0, "A", 0),)), True)
        self.assertIs(is_complete_for(BUTTERFLY, "A", [list(one) for one in TO_A]), True)
        self.assertIs(is_complete_for(BUTTERFLY, "ABC", TO_A), False)
        self.assertIs(is_complete_for(BUTTERFLY, "B", TO_A), False)

    def test_none_are_needed(self):
        for none in ((), []):
            self.assertIs(is_complete_for(EXAMPLE, "A", none), True)
            self.assertIs(is_complete_for(EXAMPLE, "AB", none), False)
            self.assertIs(is_complete_for(read_network("0: | ;"), "AB", none), True)

    def test_for_all_nodes(self):
        for text in FEASIBLE + GREATEST[:4]:
            network = read_network(text)
            schedule = first_schedule(network)
            self.assertIs(is_complete_for(network, network.node_letters(), schedule), True)
            self.assertIs(is_complete(network, schedule[:-1]),
                          is_complete_for(network, network.node_letters(), schedule[:-1]))


class WrongArguments(unittest.TestCase):
    def test_texts_that_are_no_sets_ahead_of_all_others(self):
        for targets in NO_SETS:
            for function in (first_set, is_feasible_for, feasible_alone, critical_links):
                with self.subTest(targets=targets, function=function.__name__):
                    self.assertRaises(NoSet, function, BUTTERFLY, targets)
            for target in ("A", "", "E", "AB"):
                self.assertRaises(NoSet, delivery, BUTTERFLY, targets, target)
            for told in ((), TO_A, ((9, "A", 0),), ((0, "Z", 0),), ((0, "A", 9),)):
                self.assertRaises(NoSet, is_complete_for, BUTTERFLY, targets, told)

    def test_letters_that_are_no_targets(self):
        for target in NO_TARGETS:
            with self.subTest(target=target):
                self.assertRaises(NoTarget, delivery, BUTTERFLY, "AB", target)
        self.assertRaises(NoTarget, delivery, BUTTERFLY, "D", "A")
        self.assertRaises(NoTarget, delivery, BUTTERFLY, "ABCD", "E")
        # Also where the network is not feasible for the targets.
        self.assertRaises(NoTarget, delivery, BUTTERFLY, "D", "E")

    def test_wrong_transmissions(self):
        for told, error in ((((5, "Z", 9),), NoLink), (((-1, "A", 0),), NoLink), (((0, "E", 9),), NoNode),
                            (((0, "", 0),), NoNode), (((0, "A", 1),), NoMessage), (((0, "A", -1),), NoMessage),
                            (((0, "C", 0),), NoMessage), (TO_A + ((9, "A", 0),), NoLink),
                            (((2, "A", 0), (0, "a", 0), (9, "A", 0)), NoNode),
                            (((0, "A", 9), (9, "A", 0)), NoMessage), ([[0, "A", 0], [0, "A", 0], [7, "A", 0]], NoLink)):
            with self.subTest(told=told):
                self.assertRaises(error, is_complete_for, BUTTERFLY, "AB", told)


if __name__ == "__main__":
    unittest.main()
