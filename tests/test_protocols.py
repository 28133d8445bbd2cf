"""[F4], [F5]: protocols that are carried out, and the steps that carry the messages of a schedule."""

import itertools
import random
import unittest

from allknow.networks import NoLink, NoMessage, NoNode, NoSet
from allknow.node_sets import deficient_sets
from allknow.protocols import BadStep, Relay, routed
from allknow.schedules import first_schedule, holdings
from allknow.spans import BadParity
from allknow.texts import read_network
from tests import reference, trees
from tests.samples import DEFICIENT, FEASIBLE, GREATEST, TEXTS, small_network

EXAMPLE = read_network("2: a, b | | ; AB, AB, BC, AC")
STEPS = ((0, "0^1"), (1, "0"), (2, "0^1"), (3, "0"))
TURNED = read_network("3: ab | c, a | ; AB, BA, BC, CA, AB")

OTHER_NODES = ("", "D", "a", "AB", " ", "BA", "ABC", "1", "Z")
NO_SETS = ("", "BA", "AA", "D", "AD", "a", "A B", " ", "A,B", "CAB")
NO_ASSIGNMENTS = ("ba", "aa", "c", "h", "A", " ", "a ", "ab ", "1", "\u00e4", "abc")


def seen_by_all(network, steps, assignment):
    """What each node has seen in the end, and what the links carried, by going through trees."""
    seen = {node: [reference.is_odd(text, assignment) for text in network.messages(node)]
            for node in network.node_letters()}
    carried = []
    for link, text in steps:
        sender, receiver = network.links[link]
        carried.append(trees.worth(trees.tree_of(text), seen[sender]))
        seen[receiver].append(carried[-1])
    return seen, tuple(carried)


def truth(network, assignment):
    return [reference.is_odd(text, assignment) for text in network.all_messages()]


def expected_confused(network, steps, nodes):
    """The first pair that a set takes for one another, by trying all pairs."""
    every = reference.parities(network.variable_letters())
    views = {}
    for assignment in every:
        seen, _ = seen_by_all(network, steps, assignment)
        views[assignment] = [seen[node] for node in nodes]
    for first, second in itertools.combinations(every, 2):
        if views[first] == views[second] and truth(network, first) != truth(network, second):
            return (first, second)
    return None


def expected_fault(network, steps):
    """The number and the reason of the first wrong step, or None."""
    counts = {node: len(network.messages(node)) for node in network.node_letters()}
    used = []
    for number, (link, text) in enumerate(steps):
        if link not in range(len(network.links)):
            return (number, "link")
        tree = trees.tree_of(text) if len(text) <= 60 else None
        if tree is None:
            return (number, "formula")
        if link in used:
            return (number, "used")
        sender, receiver = network.links[link]
        if any(index >= counts[sender] for product in indices_of(tree) for index in product):
            return (number, "unavailable")
        counts[receiver] += 1
        used.append(link)
    return None


def indices_of(tree):
    if isinstance(tree, bool):
        return []
    return [(tree,)] if isinstance(tree, int) else [row for part in tree[1:] for row in indices_of(part)]


def some_steps(chance, network):
    """Steps of a protocol of a network, with any formulas."""
    counts = {node: len(network.messages(node)) for node in network.node_letters()}
    steps = []
    links = chance.sample(range(len(network.links)), len(network.links))
    for link in links[:chance.randint(0, len(links))]:
        sender, receiver = network.links[link]
        text = trees.some_texts(1, chance, indices=tuple(range(counts[sender])), depth=2)[0]
        steps.append((link, text))
        counts[receiver] += 1
    return tuple(steps)


def many_protocols(count, seed):
    chance = random.Random(seed)
    found = [(EXAMPLE, STEPS)]
    for text in FEASIBLE + DEFICIENT:
        network = read_network(text)
        if network.variables <= 3:
            found.append((network, some_steps(chance, network)))
    while len(found) < count:
        network = small_network(chance, 4, 3, 2, 7)
        found.append((network, some_steps(chance, network)))
    return found


def sets_of(network):
    return reference.node_sets(network.node_letters())


class Examples(unittest.TestCase):
    def test_the_examples_of_the_document(self):
        self.assertEqual(Relay(EXAMPLE, STEPS).decoders(), "ABC")
        self.assertEqual(Relay(EXAMPLE, ((0, "0&1"),)).decoders(), "A")
        self.assertEqual(Relay(EXAMPLE, ((0, "0&1"),)).confused("B"), ("", "a"))

    def test_the_others_for_the_same_protocols(self):
        relay = Relay(EXAMPLE, STEPS)
        self.assertEqual(relay.outputs(""), (False, False, False, False))
        self.assertEqual(relay.outputs("a"), (True, True, False, True))
        self.assertEqual(relay.outputs("b"), (True, False, True, False))
        self.assertEqual(relay.outputs("ab"), (False, True, True, True))
        self.assertEqual(relay.observations("A", "a"), (True, False))
        self.assertEqual(relay.observations("B", "a"), (True, True))
        self.assertEqual(relay.observations("C", "a"), (False, True))
        for nodes in sets_of(EXAMPLE):
            self.assertIsNone(relay.confused(nodes))
        relay = Relay(EXAMPLE, ((0, "0&1"),))
        self.assertEqual(relay.confused("C"), ("", "a"))
        self.assertEqual(relay.confused("BC"), ("", "a"))
        self.assertIsNone(relay.confused("A"))
        self.assertIsNone(relay.confused("ABC"))


class CarriedOut(unittest.TestCase):
    def test_no_steps(self):
        for none in ((), []):
            relay = Relay(EXAMPLE, none)
            self.assertEqual(relay.outputs("ab"), ())
            self.assertEqual(relay.observations("A", "b"), (False, True))
            self.assertEqual(relay.observations("C", "b"), ())
            self.assertEqual(relay.decoders(), "A")
            self.assertEqual(relay.confused("BC"), ("", "a"))
        self.assertEqual(Relay(read_network("2: a, b | a | b, ab ;"), ()).decoders(), "AC")
        self.assertEqual(Relay(read_network("0: | ; AB"), ()).decoders(), "AB")
        self.assertEqual(Relay(read_network("6: | ; AB"), ()).decoders(), "AB")
        self.assertIsNone(Relay(read_network("6: | ; AB"), ()).confused("AB"))

    def test_y_and_n_where_nothing_was_seen(self):
        relay = Relay(EXAMPLE, [[2, "y"], [3, "n"]])
        for assignment in ("", "a", "b", "ab"):
            self.assertEqual(relay.outputs(assignment), (True, False))
            self.assertEqual(relay.observations("C", assignment), (True, False))
            self.assertEqual(relay.observations("B", assignment), ())
        self.assertEqual(relay.decoders(), "A")
        self.assertEqual(Relay(read_network("0: | ; AB"), ((0, "!n"),)).outputs(""), (True,))

    def test_two_links_into_one_node_in_the_order_of_the_steps(self):
        network = read_network("2: a | b | | ; AC, BC, CD")
        first = Relay(network, ((0, "0"), (1, "0"), (2, "0")))
        second = Relay(network, ((1, "0"), (0, "0"), (2, "0")))
        self.assertEqual(first.observations("C", "a"), (True, False))
        self.assertEqual(second.observations("C", "a"), (False, True))
        self.assertEqual(first.outputs("a"), (True, False, True))
        self.assertEqual(second.outputs("a"), (False, True, False))
        # Messages stand ahead of what came, however late they are asked for.
        own = Relay(read_network("2: a | b ; AB, BA"), ((0, "0"), (1, "0&!1")))
        self.assertEqual(own.observations("B", "a"), (False, True))
        self.assertEqual(own.observations("A", "b"), (False, True))
        self.assertEqual(own.outputs("b"), (False, True))

    def test_messages_that_are_sums(self):
        network = read_network("3: abc, ab | ; AB, AB")
        relay = Relay(network, ((0, "1"), (1, "0^1")))
        self.assertEqual(relay.outputs("ac"), (True, True))
        self.assertEqual(relay.outputs("abc"), (False, True))
        self.assertEqual(relay.decoders(), "AB")
        # Nobody has to tell a and b apart, only the messages.
        self.assertIsNone(relay.confused("B"))

    def test_outputs_and_observations_under_all_assignments(self):
        for network, steps in many_protocols(150, 71):
            relay = Relay(network, steps)
            for assignment in reference.parities(network.variable_letters()):
                seen, carried = seen_by_all(network, steps, assignment)
                with self.subTest(network=network.nodes, steps=steps, assignment=assignment):
                    self.assertEqual(relay.outputs(assignment), carried)
                    for node in network.node_letters():
                        self.assertEqual(relay.observations(node, assignment), tuple(seen[node]))
                    for value in relay.outputs(assignment):
                        self.assertIsInstance(value, bool)

    def test_decoders_and_confused_against_a_trying_of_all_pairs(self):
        for network, steps in many_protocols(150, 72):
            relay = Relay(network, steps)
            expected = {nodes: expected_confused(network, steps, nodes) for nodes in sets_of(network)}
            with self.subTest(nodes=network.nodes, links=network.links, steps=steps):
                for nodes, pair in expected.items():
                    self.assertEqual(relay.confused(nodes), pair, nodes)
                self.assertEqual(relay.decoders(), "".join(
                    node for node in network.node_letters() if expected[node] is None))

    def test_deficient_sets_take_some_for_one_another(self):
        for network, steps in many_protocols(250, 73):
            relay = Relay(network, steps)
            for nodes in deficient_sets(network):
                self.assertIsNotNone(relay.confused(nodes))
            # All nodes together have seen all messages.
            self.assertIsNone(relay.confused(network.node_letters()))

    def test_assignments_in_their_order(self):
        network = read_network("3: ab, ac | c | ; AC")
        self.assertEqual(Relay(network, ()).confused("C"), ("", "a"))
        self.assertEqual(Relay(network, ((0, "0"),)).confused("C"), ("", "ab"))
        self.assertEqual(Relay(network, ()).confused("B"), ("", "a"))
        self.assertEqual(Relay(network, ()).confused("A"), ("", "abc"))
        self.assertEqual(Relay(read_network("3: abc | bc, ab ;"), ()).confused("A"), ("", "ab"))
        self.assertEqual(Relay(read_network("2: a | ab ; AB"), ((0, "0"),)).confused("A"), ("", "b"))

    def test_a_first_assignment_that_is_not_empty(self):
        network = read_network("2: a, b | ; AB, AB")
        relay = Relay(network, ((0, "0|1"), (1, "0&1")))
        self.assertEqual(relay.confused("B"), ("a", "b"))

    def test_steps_as_lists_that_change_later(self):
        steps = [[0, "0^1"], (1, "0"), [2, "0^1"], [3, "0"]]
        relay = Relay(EXAMPLE, steps)
        steps[0][1] = "y"
        steps.clear()
        self.assertEqual(relay.decoders(), "ABC")
        self.assertEqual(relay.outputs("a"), (True, True, False, True))


class WrongSteps(unittest.TestCase):
    def check(self, network, steps, number, reason):
        with self.subTest(steps=steps):
            with self.assertRaises(BadStep) as caught:
                Relay(network, steps)
            self.assertEqual((caught.exception.number, caught.exception.reason), (number, reason))

    def test_each_reason_at_the_first_step_and_later(self):
        good = ((0, "0"),)
        for link in (-1, -4, 4, 100):
            self.check(EXAMPLE, ((link, "0"),), 0, "link")
            self.check(EXAMPLE, good + ((link, "0"),), 1, "link")
        for text in ("", "00", "0 ", "0&", "(0", "0)", "x", "!" * 60 + "0", "0" * 61):
            self.check(EXAMPLE, ((1, text),), 0, "formula")
            self.check(EXAMPLE, good + ((1, text),), 1, "formula")
        self.check(EXAMPLE, good + good, 1, "used")
        self.check(EXAMPLE, good + ((1, "0"), (2, "1"), (1, "0")), 3, "used")
        self.check(EXAMPLE, ((2, "0"),), 0, "unavailable")
        self.check(EXAMPLE, ((0, "2"),), 0, "unavailable")
        self.check(EXAMPLE, ((0, "0|99"),), 0, "unavailable")
        self.check(EXAMPLE, good + ((2, "1"),), 1, "unavailable")
        self.check(EXAMPLE, good + ((2, "0&n&1"),), 1, "unavailable")
        self.check(EXAMPLE, good + ((1, "0"), (2, "2")), 2, "unavailable")

    def test_what_is_seen_later_is_not_available(self):
        self.check(EXAMPLE, ((2, "0"), (0, "0")), 0, "unavailable")
        Relay(EXAMPLE, ((0, "0"), (2, "0")))
        self.check(TURNED, ((0, "1"), (1, "0")), 0, "unavailable")
        Relay(TURNED, ((1, "0"), (0, "1")))

    def test_the_first_reason_where_two_hold(self):
        self.check(EXAMPLE, ((4, "00"),), 0, "link")
        self.check(EXAMPLE, ((0, "0"), (4, "5")), 1, "link")
        self.check(EXAMPLE, ((0, "0"), (0, "00")), 1, "formula")
        self.check(EXAMPLE, ((0, "0"), (0, "99&")), 1, "formula")
        self.check(EXAMPLE, ((0, "0"), (0, "99")), 1, "used")
        self.check(EXAMPLE, ((-1, ""),), 0, "link")

    def test_the_first_wrong_step(self):
        self.check(EXAMPLE, ((0, "0"), (2, "5"), (9, "0")), 1, "unavailable")
        self.check(EXAMPLE, ((0, "0"), (0, "0"), (1, "(")), 1, "used")
        self.check(EXAMPLE, ((0, "!"), (9, "0")), 0, "formula")

    def test_by_chance(self):
        chance = random.Random(74)
        for network, steps in many_protocols(250, 75):
            steps = list(steps)
            for _ in range(2):
                wrong = (chance.choice((-1, 0, 1, 2, len(network.links))), chance.choice(("0", "9", "y", "00", "0|1", "")))
                steps.insert(chance.randint(0, len(steps)), wrong)
            fault = expected_fault(network, steps)
            if fault is None:
                Relay(network, steps)
            else:
                self.check(network, steps, *fault)

    def test_other_nodes(self):
        relay = Relay(EXAMPLE, STEPS)
        for node in OTHER_NODES:
            for assignment in ("a", "ba", "c"):
                self.assertRaises(NoNode, relay.observations, node, assignment)

    def test_texts_that_are_no_assignments(self):
        relay = Relay(EXAMPLE, STEPS)
        for text in NO_ASSIGNMENTS:
            for call in (lambda: relay.outputs(text), lambda: relay.observations("C", text)):
                with self.subTest(text=text):
                    with self.assertRaises(BadParity) as caught:
                        call()
                    self.assertEqual(caught.exception.text, text)
        self.assertRaises(BadParity, Relay(read_network("0: ;"), ()).outputs, "a")

    def test_texts_that_are_no_sets(self):
        relay = Relay(EXAMPLE, STEPS)
        for nodes in NO_SETS:
            with self.subTest(nodes=nodes):
                self.assertRaises(NoSet, relay.confused, nodes)


class Routed(unittest.TestCase):
    def test_the_first_schedule_of_the_example(self):
        self.assertEqual(routed(EXAMPLE, first_schedule(EXAMPLE)), ((0, "0"), (1, "1"), (2, "0"), (3, "1")))
        self.assertEqual(routed(EXAMPLE, ()), ())
        self.assertEqual(routed(EXAMPLE, [[0, "A", 1], [1, "A", 0], [2, "A", 0]]), ((0, "1"), (1, "0"), (2, "1")))

    def test_own_messages_stand_first(self):
        network = read_network("3: a | b, c | ; AB, BC, BC, BC, BA, BA, AC")
        schedule = ((4, "B", 1), (0, "A", 0), (1, "A", 0), (2, "B", 1), (3, "B", 0), (5, "B", 0))
        self.assertEqual(routed(network, schedule), ((4, "1"), (0, "0"), (1, "2"), (2, "1"), (3, "0"), (5, "0")))
        self.assertEqual(routed(network, schedule[:1] + ((6, "B", 1),)), ((4, "1"), (6, "1")))

    def test_an_index_with_two_digits(self):
        network = read_network("6: a, b, c, d | e, f, ab, ac | | ; AB, AB, AB, AB, BC")
        schedule = ((0, "A", 0), (1, "A", 3), (4, "A", 3))
        self.assertEqual(routed(network, schedule), ((0, "0"), (1, "3"), (4, "5")))
        network = read_network("6: a | | abc, abd, abe, abf | ; " + ", ".join(["AB"] + ["CB"] * 4 + ["BD"]))
        schedule = ((1, "C", 0), (2, "C", 1), (3, "C", 2), (4, "C", 3), (0, "A", 0), (5, "A", 0))
        self.assertEqual(routed(network, schedule)[-1], (5, "4"))

    def test_they_carry_the_same_messages(self):
        for text in FEASIBLE + GREATEST[:4]:
            network = read_network(text)
            schedule = first_schedule(network)
            relay = Relay(network, routed(network, schedule))
            messages = [network.messages(origin)[index] for _, origin, index in schedule]
            had = holdings(network, schedule)
            with self.subTest(text=text):
                self.assertEqual(relay.decoders(), network.node_letters())
                for assignment in reference.parities(network.variable_letters())[::5]:
                    odd = tuple(reference.is_odd(message, assignment) for message in messages)
                    self.assertEqual(relay.outputs(assignment), odd)
                    for node, pairs in zip(network.node_letters(), had):
                        row = [network.messages(origin)[index] for origin, index in pairs]
                        self.assertEqual(relay.observations(node, assignment),
                                         tuple(reference.is_odd(message, assignment) for message in row))

    def test_transmissions_that_are_no_schedule(self):
        for wrong in (((2, "A", 0),), ((0, "A", 0), (0, "A", 1)), ((0, "A", 0), (1, "A", 0)),
                      ((0, "A", 0), (1, "A", 1), (2, "A", 0), (3, "A", 0))):
            self.assertIsNone(routed(EXAMPLE, wrong))
        # A schedule it is, though a set is deficient after it.
        self.assertEqual(routed(read_network("2: a, b | | ; AB, BC, AC"), ((0, "A", 1), (1, "A", 1))),
                         ((0, "1"), (1, "0")))

    def test_wrong_transmissions(self):
        for wrong, error in ((((4, "Z", 9),), NoLink), (((-1, "A", 0),), NoLink), (((0, "Z", 9),), NoNode),
                             (((0, "", 0),), NoNode), (((0, "A", 2),), NoMessage), (((0, "A", -1),), NoMessage),
                             (((0, "B", 0),), NoMessage), (((0, "A", 9), (9, "A", 0)), NoMessage),
                             (((2, "A", 0), (0, "D", 0)), NoNode), (((0, "A", 0), (0, "A", 0), (9, "A", 0)), NoLink)):
            with self.subTest(wrong=wrong):
                self.assertRaises(error, routed, EXAMPLE, wrong)


class SamplesOfAllSizes(unittest.TestCase):
    def test_that_they_can_be_carried_out(self):
        for text in TEXTS:
            network = read_network(text)
            relay = Relay(network, [(link, "y") for link in range(len(network.links))])
            self.assertEqual(relay.outputs(network.variable_letters()), (True,) * len(network.links))
            for node in network.node_letters():
                self.assertEqual(node in relay.decoders(), reference.rank(network.messages(node)) == reference.rank(
                    network.all_messages()))


if __name__ == "__main__":
    unittest.main()
