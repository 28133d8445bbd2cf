"""[H1] to [H4]: links that fail."""

import functools
import random
import unittest

from allknow.failures import (AdaptiveSchedule, NothingSent, needed_links, schedule_without, smallest_failure,
                              tolerance)
from allknow.networks import Network, NoLink
from allknow.node_sets import NotFeasible, deficient_sets, node_set, tight_sets
from allknow.protocols import Relay
from allknow.schedules import first_schedule, next_transmissions
from allknow.texts import read_network
from tests import reference
from tests.samples import DEFICIENT, FEASIBLE, GREATEST, TEXTS, small_network
from tests.test_protocols import some_steps

EXAMPLE = read_network("2: a, b | | ; AB, AB, BC, AC")
SPARE = read_network("1: a | ; AB, AB")

# Feasible without any links: all can fail.
NOTHING_NEEDED = ("0: ;", "1: a ;", "6: | | ; AB, BC", "2: a, b | b, ab ; AB, BA", "1: a | a | a ;")


@functools.lru_cache(maxsize=None)
def feasible_networks():
    """Small networks in which no set is deficient, many with links to spare."""
    chance = random.Random(101)
    found = [read_network(text) for text in FEASIBLE[:13] + NOTHING_NEEDED]
    while len(found) < 150:
        network = small_network(chance, 4, 2, 2, 7)
        if network.links and not deficient_sets(network):
            found.append(network)
    return found


def facts(network):
    return reference.network_rows(network), reference.network_links(network)


def tolerance_by_sets(rows, links):
    """The tolerance by the last sentence of [H1], or None."""
    told = [reference.set_facts(nodes, rows, links) for nodes in reference.node_sets(rows)]
    return min((len(into) - demand for _, demand, into, _, _ in told if demand > 0), default=None)


def expected_choice(course, tolerance_of=reference.tolerance):
    """The transmission with the greatest tolerance behind it, or None."""
    if course.deficient():
        return None
    best = None
    for transmission in course.next_ones():
        after = course.after(transmission)
        told = tolerance_of(after.rows, after.links)
        worth = len(after.links) + 1 if told is None else told
        if best is None or worth > best[0]:
            best = (worth, transmission)
    return best and best[1]


class Examples(unittest.TestCase):
    def test_the_examples_of_the_document(self):
        self.assertEqual(tolerance(EXAMPLE), 0)
        self.assertEqual(needed_links(EXAMPLE), (0, 1, 2, 3))
        self.assertEqual(smallest_failure(EXAMPLE), (0,))
        self.assertEqual(tolerance(SPARE), 1)
        self.assertEqual(smallest_failure(SPARE), (0, 1))
        schedule = AdaptiveSchedule(SPARE)
        self.assertEqual(schedule.choice(), (0, "A", 0))
        self.assertEqual(schedule.tell(False), (1, "A", 0))
        self.assertIsNone(schedule.tell(False))
        self.assertEqual(schedule.deficient(), "B")
        self.assertEqual(schedule.lost(), (0, 1))

    def test_the_others_for_the_same_networks(self):
        self.assertEqual(needed_links(SPARE), ())
        self.assertEqual(schedule_without(EXAMPLE, ()), (None, first_schedule(EXAMPLE)))
        self.assertEqual(schedule_without(EXAMPLE, (2,)), ("C", None))
        self.assertEqual(schedule_without(SPARE, [0]), (None, ((1, "A", 0),)))
        self.assertEqual(schedule_without(SPARE, (1, 0)), ("B", None))


class Tolerance(unittest.TestCase):
    def test_against_a_leaving_out_of_every_set_of_links(self):
        greatest = 0
        for network in feasible_networks():
            rows, links = facts(network)
            expected = reference.tolerance(rows, links)
            with self.subTest(nodes=network.nodes, links=network.links):
                self.assertEqual(tolerance(network), expected)
                self.assertEqual(tolerance_by_sets(rows, links), expected)
                failure = None if expected is None else reference.failing(rows, links, expected + 1)
                self.assertEqual(smallest_failure(network), failure)
                needed = [number for number in links if not reference.suffices(
                    rows, {other: text for other, text in links.items() if other != number})]
                self.assertEqual(needed_links(network), tuple(needed))
            greatest = max(greatest, expected or 0)
        self.assertGreater(greatest, 1)

    def test_all_can_fail(self):
        for text in NOTHING_NEEDED + ("0: | ;" + ",".join([" AB"] * 16),):
            network = read_network(text)
            with self.subTest(text=text):
                self.assertIsNone(tolerance(network))
                self.assertEqual(needed_links(network), ())
                self.assertIsNone(smallest_failure(network))
                everything = tuple(range(len(network.links)))
                self.assertEqual(schedule_without(network, everything), (None, ()))

    def test_networks_with_a_deficient_set(self):
        for text in DEFICIENT + GREATEST[4:]:
            network = read_network(text)
            for function in (tolerance, needed_links, smallest_failure):
                with self.subTest(text=text, function=function.__name__):
                    self.assertRaises(NotFeasible, function, network)

    def test_the_tolerance_and_the_sets(self):
        for text in FEASIBLE + GREATEST[:4]:
            network = read_network(text)
            entered = {number for nodes in tight_sets(network) for number in node_set(network, nodes)[2]}
            self.assertEqual(needed_links(network), tuple(sorted(entered)))
            self.assertEqual(tolerance(network) == 0, needed_links(network) != ())
            if needed_links(network):
                self.assertEqual(smallest_failure(network), needed_links(network)[:1])

    def test_of_several_the_first_ones(self):
        network = read_network("1: a | | ; AC, AB, AB, BC, CB, BC")
        self.assertEqual(tolerance(network), 2)
        self.assertEqual(smallest_failure(network), (0, 1, 2))
        network = read_network("1: a | | ; AC, AB, AC, CB, AB, BC")
        self.assertEqual(smallest_failure(network), (0, 2, 5))
        network = read_network("1: a | | ; AC, AC, AC, AC, AB, CB")
        self.assertEqual(smallest_failure(network), (4, 5))

    def test_one_link_less_lowers_it_by_one_at_most(self):
        for network in feasible_networks():
            told = tolerance(network)
            if told is not None and told >= 1:
                for number in range(len(network.links)):
                    links = network.links[:number] + network.links[number + 1:]
                    fewer = Network(network.variables, network.nodes, links)
                    self.assertIn(tolerance(fewer), (told, told - 1))


class Without(unittest.TestCase):
    def test_against_a_trying_of_all_schedules(self):
        chance = random.Random(102)
        for network in feasible_networks()[:110] + [read_network(text) for text in DEFICIENT[:6]]:
            numbers = list(range(len(network.links)))
            left_out = chance.sample(numbers, chance.randint(0, min(3, len(numbers))))
            course = reference.Course(network).without(left_out)
            deficient = course.deficient()
            expected = (deficient[0], None) if deficient else (None, reference.first_complete(course))
            with self.subTest(nodes=network.nodes, links=network.links, left_out=left_out):
                for told in (left_out, tuple(left_out), left_out[::-1], left_out + left_out):
                    self.assertEqual(schedule_without(network, told), expected)

    def test_the_others_keep_their_numbers(self):
        network = read_network("1: a | ; AB, BA, AB")
        self.assertEqual(schedule_without(network, (0,)), (None, ((2, "A", 0),)))
        self.assertEqual(schedule_without(network, (1, 0, 1)), (None, ((2, "A", 0),)))
        self.assertEqual(schedule_without(network, [2, 0]), ("B", None))

    def test_without_any_it_is_as_it_was(self):
        for text in FEASIBLE + DEFICIENT + TEXTS + GREATEST:
            network = read_network(text)
            deficient = deficient_sets(network)
            first = deficient[0] if deficient else None
            self.assertEqual(schedule_without(network, []), (first, first_schedule(network)))

    def test_links_that_there_are_not(self):
        for links in ((-1,), (4,), (0, 4), (4, 0), (0, 0, -4), [1, 2, 100]):
            with self.subTest(links=links):
                self.assertRaises(NoLink, schedule_without, EXAMPLE, links)
        self.assertRaises(NoLink, schedule_without, read_network("1: a ;"), (0,))
        self.assertRaises(NoLink, schedule_without, read_network("1: a | ;"), (0,))


class Adaptive(unittest.TestCase):
    def played(self, network, told):
        """What is sent, and whether it arrived, to the end; each choice is compared with the reference."""
        schedule = AdaptiveSchedule(network)
        course = reference.Course(network)
        sent = []
        lost = []
        choice = schedule.choice()
        while choice is not None:
            self.assertEqual(choice, expected_choice(course))
            self.assertEqual(schedule.choice(), choice)
            self.assertIsNone(schedule.deficient())
            arrived = told()
            sent.append((choice, arrived))
            course = course.after(choice) if arrived else course.without((choice[0],))
            if not arrived:
                lost.append(choice[0])
            choice = schedule.tell(arrived)
            self.assertEqual(schedule.lost(), tuple(lost))
        self.assertIsNone(expected_choice(course))
        self.check_end(schedule, course)
        return sent

    def check_end(self, schedule, course):
        deficient = course.deficient()
        self.assertEqual(schedule.deficient(), deficient[0] if deficient else None)
        self.assertTrue(deficient or course.is_over())
        self.assertIsNone(schedule.choice())
        lost = schedule.lost()
        for arrived in (True, False):
            self.assertRaises(NothingSent, schedule.tell, arrived)
        self.assertEqual(schedule.lost(), lost)
        self.assertIsNone(schedule.choice())

    def test_all_arrived(self):
        for network in feasible_networks():
            with self.subTest(nodes=network.nodes, links=network.links):
                sent = self.played(network, lambda: True)
                transmissions = [transmission for transmission, _ in sent]
                self.assertTrue(reference.after_all(network, transmissions).is_over())

    def test_all_lost(self):
        for network in feasible_networks():
            with self.subTest(nodes=network.nodes, links=network.links):
                sent = self.played(network, lambda: False)
                self.assertEqual(sent == [], tolerance(network) is None)

    def test_as_drawn(self):
        chance = random.Random(103)
        for network in feasible_networks() + feasible_networks():
            with self.subTest(nodes=network.nodes, links=network.links):
                self.played(network, lambda: chance.random() < 0.7)

    def test_as_many_lost_as_it_tolerates(self):
        for network in feasible_networks():
            left = [tolerance(network) or 0]

            def told():
                left[0] -= 1
                return left[0] < 0

            sent = self.played(network, told)
            arrived = [transmission for transmission, came in sent if came]
            self.assertTrue(reference.after_all(network, arrived).is_over())

    def test_the_greatest_tolerance_ahead_of_the_first_one(self):
        # Against the reference each choice is compared above; here it has to make a difference.
        for network in feasible_networks():
            choice = AdaptiveSchedule(network).choice()
            nexts = next_transmissions(network, ())
            if choice is not None and choice != nexts[0]:
                self.assertIn(choice, nexts)
                return
        self.fail("a choice that is not the first one is to be among these")

    def test_a_message_that_a_set_can_derive_leaves_it_less_to_spare(self):
        # Of B and C together a is known: if C gets a from outside, too few links are left to spare for b.
        network = read_network("2: a, b | a | ; AC, AB, BC, BC, BC, CB, CB")
        self.assertEqual(tolerance(network), 1)
        self.assertEqual(AdaptiveSchedule(network).choice(), (0, "A", 1))
        self.assertEqual(AdaptiveSchedule(network).choice(), expected_choice(reference.Course(network)))

    def test_one_link_less_to_spare_where_a_set_can_derive_it_and_elsewhere_none(self):
        for text, choice in (("2: ab | | ab, b ; BA, CB, CB, AB, AC, AB, BA", (1, "C", 1)),
                             ("2: ab | | ab, b ; AC, BA, CB, CB, AB, CA, BA, AB", (2, "C", 1)),
                             ("2: b | | b, a ; CB, AC, CA, AB, AC, AC, BC", (0, "C", 0)),
                             ("2: b, ab | | b, ab | b | b, ab ; CA, BE, AB, DB, CD, AE", (2, "A", 0)),
                             ("2: ab, ab | a, b | ab | | ab ; CA, CD, ED, DA, BE, EC", (1, "C", 0))):
            network = read_network(text)
            with self.subTest(text=text):
                self.assertEqual(expected_choice(reference.Course(network)), choice)
                self.assertEqual(AdaptiveSchedule(network).choice(), choice)

    def test_with_many_links_to_spare(self):
        chance = random.Random(105)
        others = 0
        found = []
        while len(found) < 150:
            network = small_network(chance, 4, 3, 2, 12)
            if len(network.links) > 7 and not deficient_sets(network) and tolerance_by_sets(*facts(network)) is not None:
                found.append(network)
        for network in found:
            schedule, course = AdaptiveSchedule(network), reference.Course(network)
            for _ in range(3):
                choice = schedule.choice()
                with self.subTest(nodes=network.nodes, links=network.links):
                    self.assertEqual(choice, expected_choice(course, tolerance_by_sets))
                if choice is None:
                    break
                others += choice != course.next_ones()[0]
                arrived = chance.random() < 0.6
                course = course.after(choice) if arrived else course.without((choice[0],))
                schedule.tell(arrived)
        self.assertGreater(others, 30)

    def test_networks_with_a_deficient_set(self):
        for text in DEFICIENT:
            network = read_network(text)
            schedule = AdaptiveSchedule(network)
            self.assertIsNone(schedule.choice())
            self.assertEqual(schedule.lost(), ())
            self.assertEqual(schedule.deficient(), deficient_sets(network)[0])
            self.assertRaises(NothingSent, schedule.tell, True)
            self.assertRaises(NothingSent, schedule.tell, False)

    def test_networks_that_need_nothing(self):
        for text in NOTHING_NEEDED:
            schedule = AdaptiveSchedule(read_network(text))
            self.assertIsNone(schedule.choice())
            self.assertIsNone(schedule.deficient())
            self.assertRaises(NothingSent, schedule.tell, True)

    def test_two_of_one_network_do_not_disturb_one_another(self):
        first, second = AdaptiveSchedule(SPARE), AdaptiveSchedule(SPARE)
        first.tell(False)
        self.assertEqual(second.choice(), (0, "A", 0))
        self.assertEqual(second.lost(), ())
        lost = first.lost()
        first.tell(False)
        self.assertEqual(lost, (0,))

    def test_no_protocol_over_the_links_that_are_left_lets_a_deficient_set_tell_all(self):
        chance = random.Random(104)
        for network in feasible_networks()[:60]:
            schedule = AdaptiveSchedule(network)
            had = reference.Course(network)
            while schedule.choice() is not None:
                choice, arrived = schedule.choice(), chance.random() < 0.4
                had = had.after(choice) if arrived else had.without((choice[0],))
                schedule.tell(arrived)
            nodes = schedule.deficient()
            if nodes is not None and max(len(row) for row in had.rows.values()) <= 4:
                rest = Network(network.variables, list(had.rows.values()), list(had.links.values()))
                for _ in range(6):
                    self.assertIsNotNone(Relay(rest, some_steps(chance, rest)).confused(nodes))


if __name__ == "__main__":
    unittest.main()
