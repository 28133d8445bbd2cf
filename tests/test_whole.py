"""[0.2], [0.3] over the whole program: what the parts say of one another, and the error that is due first."""

import itertools
import random
import unittest

from allknow import (changes, failures, formulas, injections, networks, node_sets, protocols, schedules, sessions, spans,
                     steps, targets, texts)
from allknow.networks import Network
from allknow.texts import read_network, relabelled, write_network
from tests import reference
from tests.samples import DEFICIENT, FEASIBLE, GREATEST, TEXTS, facts, small_network

EXAMPLE = read_network("2: a, b | | ; AB, AB, BC, AC")
LACKING = read_network("2: a, b | | ; AB, BC, AC")
FOUR = read_network("1: a, a, a, a | ;" + ",".join([" AB"] * 16))


def many_networks():
    chance = random.Random(141)
    found = [small_network(chance, 5, 3, 3, 9) for _ in range(150)]
    return found + [read_network(text) for text in FEASIBLE + DEFICIENT + TEXTS + GREATEST]


class OfOneAnother(unittest.TestCase):
    def test_what_is_said_where_a_network_is_feasible_and_where_it_is_not(self):
        for network in many_networks():
            everybody = network.node_letters()
            none = (0,) * len(everybody)
            costs = (1,) * len(network.links)
            told = changes.is_feasible(network)
            with self.subTest(network=write_network(network)):
                self.assertIs(node_sets.deficient_sets(network) == (), told)
                self.assertIs(node_sets.first_deficient(network) is None, told)
                self.assertIs(schedules.first_schedule(network) is not None, told)
                self.assertIs(injections.minimum_counts(network) == none, told)
                self.assertIs(injections.certificate(network) == (), told)
                self.assertIs(injections.deficient_set(network, none) is None, told)
                self.assertIs(injections.injections(network, none) is not None, told)
                self.assertIs(failures.schedule_without(network, ())[0] is None, told)
                self.assertIs(failures.AdaptiveSchedule(network).deficient() is None, told)
                self.assertIs(changes.reduced(network) is not None, told)
                self.assertIs(changes.cheapest(network, costs) is not None, told)
                self.assertIs(targets.is_feasible_for(network, everybody), told)
                self.assertIs(targets.feasible_alone(network, everybody) == everybody, told)
                self.assertIs(targets.critical_links(network, everybody) is not None, told)
                self.assertIs(sessions.Session(network).remaining() is not None, told)

    def test_the_same_number_of_links_everywhere(self):
        for network in many_networks():
            if changes.is_feasible(network):
                count = len(schedules.first_schedule(network))
                self.assertEqual(sum(node_sets.node_set(network, node)[1] for node in network.node_letters()), count)
                self.assertEqual(len(changes.reduced(network)), count)
                self.assertEqual(changes.cheapest(network, (1,) * len(network.links))[0], count)
                self.assertEqual(sessions.Session(network).remaining(), count)
                self.assertEqual(failures.needed_links(network),
                                 targets.critical_links(network, network.node_letters()))
                self.assertEqual(len(changes.helping_links(network)), len(network.nodes) * (len(network.nodes) - 1))

    def test_a_schedule_is_carried_out_as_steps_and_as_a_protocol(self):
        for network in many_networks():
            schedule = schedules.first_schedule(network)
            if schedule is None:
                continue
            everybody = network.node_letters()
            as_steps = tuple((link, network.messages(origin)[index]) for link, origin, index in schedule)
            self.assertEqual(steps.informed(network, as_steps), everybody)
            self.assertEqual(steps.idle_steps(network, as_steps), ())
            relay = protocols.Relay(network, protocols.routed(network, schedule))
            self.assertEqual(relay.decoders(), everybody)
            for assignment in reference.parities(network.variable_letters())[-3:]:
                self.assertEqual(relay.outputs(assignment), steps.carried(network, as_steps, assignment))
            events = [("sent",) + transmission for transmission in schedule]
            self.assertEqual(sessions.replayed(network, events).remaining(), 0)
            self.assertIs(targets.is_complete_for(network, everybody, schedule), True)

    def test_critical_links_of_each_target_are_needed(self):
        for network in many_networks():
            if changes.is_feasible(network):
                alone = [targets.critical_links(network, node) for node in network.node_letters()]
                self.assertEqual(tuple(sorted(set(itertools.chain(*alone)))), failures.needed_links(network))

    def test_a_link_that_helps_lowers_what_has_to_be_put_in(self):
        for network in many_networks():
            if len(network.links) < 16 and not changes.is_feasible(network):
                for link in changes.helping_links(network):
                    more = Network(network.variables, network.nodes, network.links + (link,))
                    self.assertIs(changes.is_feasible(more), True)
                    self.assertEqual(sum(injections.minimum_counts(more)), 0)
                    session = sessions.Session(network)
                    self.assertIsNotNone(session.record(("added", link)))
                    self.assertEqual(facts(session.network()), facts(more))

    def test_links_lost_one_by_one(self):
        for network in many_networks():
            if changes.is_feasible(network):
                session = sessions.Session(network)
                needed = failures.needed_links(network)
                for number in range(len(network.links)):
                    self.assertIs(session.can_lose(number), number not in needed)
                failure = failures.smallest_failure(network)
                for number in failure or ():
                    self.assertIsNotNone(session.remaining())
                    session.record(("lost", number))
                self.assertEqual(session.remaining() is None, failure is not None)
                self.assertEqual(session.first_deficient(), failures.schedule_without(network, failure or ())[0])

    def test_relabelled_networks(self):
        chance = random.Random(142)
        for network in many_networks():
            order = "".join(chance.sample(network.node_letters(), len(network.nodes)))
            other = relabelled(network, order)
            self.assertIs(changes.is_feasible(other), changes.is_feasible(network))
            self.assertEqual(sum(injections.minimum_counts(other)), sum(injections.minimum_counts(network)))
            if changes.is_feasible(network):
                self.assertEqual(failures.tolerance(other), failures.tolerance(network))
                self.assertEqual(failures.needed_links(other), failures.needed_links(network))
                costs = tuple(chance.randint(0, 5) for _ in network.links)
                self.assertEqual(changes.cheapest(other, costs), changes.cheapest(network, costs))


class FirstErrors(unittest.TestCase):
    """Several wrong arguments at once: the error that is due first, with what it tells."""

    def check(self, kind, told, call, *arguments):
        with self.subTest(call=call.__name__, arguments=arguments[1:]):
            with self.assertRaises(kind) as caught:
                call(*arguments)
            self.assertIs(type(caught.exception), kind)
            self.assertEqual(vars(caught.exception), told)

    def test_parts_a_to_e(self):
        self.check(networks.BadNetwork, {"part": "variables", "number": None, "reason": "range"},
                   Network, 7, [["a"] * 5], ["AA"])
        self.check(networks.BadNetwork, {"part": "nodes", "number": 0, "reason": "count"},
                   Network, 1, [["a"] * 5, ["b"]], ["AA"])
        self.check(texts.TooLong, {}, read_network, "x" * 401)
        self.check(spans.BadParity, {"text": "ba"}, spans.combination, ("a", "ba"), "cb")
        self.check(steps.Fault, {"number": 1}, steps.earliest, EXAMPLE, ((0, "a"), (0, "a")), "Z", "ba")
        self.check(networks.NoNode, {}, steps.earliest, EXAMPLE, ((0, "a"),), "Z", "ba")
        self.check(networks.NoNode, {}, node_sets.around, LACKING, "Z")
        self.check(networks.NoNode, {}, node_sets.without, LACKING, "A", "Z")
        self.check(networks.NoLink, {}, node_sets.can_carry, LACKING, 9)
        self.check(node_sets.NotFeasible, {}, node_sets.can_carry, LACKING, 0)
        self.check(networks.NoLink, {}, schedules.tree, EXAMPLE, ((9, "Z", 9),), "Z", 9)
        self.check(networks.NoNode, {}, schedules.tree, EXAMPLE, ((2, "A", 0),), "Z", 9)

    def test_parts_f_and_g(self):
        self.check(formulas.TooLong, {}, formulas.normal_text, "x" * 61)
        self.check(formulas.BadFormula, {"position": 13}, formulas.normal_text, "0^1^2^3^4^5^6x")
        self.check(formulas.TooManyInputs, {}, formulas.normal_text, "0^1^2^3^4^5^6")
        self.check(protocols.BadStep, {"number": 0, "reason": "link"}, protocols.Relay, EXAMPLE, ((9, "x"), (0, "x")))
        self.check(protocols.BadStep, {"number": 1, "reason": "formula"},
                   protocols.Relay, EXAMPLE, ((0, "0"), (0, "x"), (9, "9")))
        relay = protocols.Relay(EXAMPLE, ())
        self.check(networks.NoNode, {}, relay.observations, "Z", "zz")
        self.check(spans.BadParity, {"text": "c"}, relay.observations, "A", "c")
        self.check(networks.NoSet, {}, injections.lower_bound, EXAMPLE, ("A", "A", "BA"))
        self.check(injections.NotDisjoint, {}, injections.lower_bound, EXAMPLE, ("A", "A", "B"))
        self.check(injections.BadCounts, {}, injections.injections, LACKING, (0, 0, -1))

    def test_parts_h_to_j(self):
        self.check(networks.NoLink, {}, failures.schedule_without, LACKING, (0, 3))
        self.check(node_sets.NotFeasible, {}, failures.smallest_failure, LACKING)
        self.check(changes.BadCosts, {}, changes.bound, LACKING, (1, 1), (("BA", 0),))
        self.check(networks.NoSet, {}, changes.bound, LACKING, (1, 1, 1), (("B", 0), ("BA", 1)))
        self.check(changes.BadWeights, {"number": 0}, changes.bound, LACKING, (1, 1, 1), (("B", 0), ("A", 1)))
        self.check(networks.NoNode, {}, changes.with_message, LACKING, "Z", "z")
        self.check(spans.BadParity, {"text": "z"}, changes.with_message, LACKING, "A", "z")
        self.check(networks.NoSet, {}, targets.delivery, LACKING, "BA", "Z")
        self.check(targets.NoTarget, {}, targets.delivery, LACKING, "B", "Z")
        self.check(networks.NoSet, {}, targets.is_complete_for, LACKING, "", ((9, "Z", 9),))
        self.check(networks.NoLink, {}, targets.is_complete_for, LACKING, "B", ((9, "Z", 9),))

    def test_part_k(self):
        session = sessions.Session(FOUR)
        for number in range(60):
            session.record(("closed" if number % 2 == 0 else "opened", number % 8 // 2))
        self.check(sessions.BadEvent, {"reason": "word"}, session.record, ())
        self.check(sessions.BadEvent, {"reason": "length"}, session.record, ("sent", 99))
        self.check(networks.NoLink, {}, session.record, ("sent", 99, "Z", 9))
        self.check(networks.NoNode, {}, session.record, ("sent", 0, "Z", 9))
        self.check(networks.NoMessage, {}, session.record, ("sent", 0, "B", 0))
        self.check(spans.BadParity, {"text": "b"}, session.record, ("learned", "A", "b"))
        self.check(sessions.BadEvent, {"reason": "many"}, session.record, ("learned", "A", "a"))
        self.check(sessions.BadEvent, {"reason": "many"}, session.record, ("added", "AB"))
        self.check(sessions.BadEvent, {"reason": "full"}, session.record, ("learned", "B", "a"))
        self.check(sessions.Rejected, {"number": 1}, sessions.replayed, FOUR, (("lost", 0), ("lost", 0), ()))


if __name__ == "__main__":
    unittest.main()
