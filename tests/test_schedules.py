"""[A4], [E1] to [E4]: schedules, in which links carry first messages unchanged."""

import random
import unittest

from allknow.networks import Network, NoLink, NoMessage, NoNode
from allknow.node_sets import first_deficient, node_set
from allknow.schedules import (first_schedule, holdings, is_complete, next_transmissions, schedule_fault, time_slots,
                               tree)
from allknow.texts import read_network, write_network
from tests import reference
from tests.samples import DEFICIENT, FEASIBLE, GREATEST, small_network

EXAMPLE = read_network("2: a, b | | ; AB, AB, BC, AC")
FIRST = ((0, "A", 0), (1, "A", 1), (2, "A", 0), (3, "A", 1))
LACKING = read_network("2: a, b | | ; AB, BC, AC")

# A line of links, and a way around; A and C have messages with the same letters.
LINE = read_network("2: ab, b | | ab | ; AB, BC, CD, AB, BD, DA")

OTHER_NODES = ("", "D", "a", "AB", " ", "BA", "ABC", "1", "Z")


# Small networks that need three transmissions, or four; in some of them links are to spare.
NEEDING_MORE = ("2: a, b | a | ; AB, AC, BC", "2: a, b | | ; AB, AC, BC, CB", "2: a | b | ab ; AB, BA, AC, BC, CB",
                "2: a | b | ; AB, BA, BC, AC", "1: a | | | ; AB, BC, CD, DB, AC", "2: ab | | b ; AB, CB, AC, BA")


def small_networks(count, seed):
    chance = random.Random(seed)
    return [small_network(chance, 3, 2, 2, 4) for _ in range(count)]


def with_shuffled_links(texts, count, seed):
    chance = random.Random(seed)
    found = []
    for text in texts * count:
        network = read_network(text)
        links = chance.sample(network.links, len(network.links))
        found.append(Network(network.variables, network.nodes, links))
    return found


def some_schedule(chance, network):
    """Possible transmissions, perhaps such that a set becomes deficient."""
    course = reference.Course(network)
    schedule = []
    possible = course.possible()
    while possible and chance.random() < 0.85:
        transmission = chance.choice(possible)
        schedule.append(transmission)
        course = course.after(transmission)
        possible = course.possible()
    return tuple(schedule)


def many_schedules(count, seed):
    chance = random.Random(seed)
    found = [(read_network(text), some_schedule(chance, read_network(text))) for text in FEASIBLE + DEFICIENT]
    while len(found) < count:
        network = small_network(chance, 4, 3, 3, 7)
        if network.links and network.all_messages():
            found.append((network, some_schedule(chance, network)))
    return found


def any_transmissions(chance, network):
    """Transmissions of a network, often no schedule."""
    rows = [(link, node, index) for link in range(len(network.links)) for node in network.node_letters()
            for index in range(len(network.messages(node)))]
    return tuple(chance.choice(rows) for _ in range(chance.randint(0, 3) if rows else 0))


def expected_fault(network, transmissions):
    course = reference.Course(network)
    for number, transmission in enumerate(transmissions):
        reason = course.wrong(transmission)
        if reason:
            return (number, reason, None)
        course = course.after(transmission)
        deficient = course.deficient()
        if deficient:
            return (number, "deficient", deficient[0])
    return None


def is_schedule(network, transmissions):
    course = reference.Course(network)
    for transmission in transmissions:
        if course.wrong(transmission):
            return False
        course = course.after(transmission)
    return True


class Examples(unittest.TestCase):
    def test_the_examples_of_the_document(self):
        self.assertEqual(first_schedule(EXAMPLE), FIRST)
        self.assertEqual(next_transmissions(EXAMPLE, ((0, "A", 0), (3, "A", 0))), ((1, "A", 1),))

    def test_the_others_for_the_same_network(self):
        self.assertIs(is_complete(EXAMPLE, FIRST), True)
        self.assertIsNone(schedule_fault(EXAMPLE, FIRST))
        self.assertEqual(next_transmissions(EXAMPLE, FIRST), ())
        self.assertEqual(next_transmissions(EXAMPLE, ()), (
            (0, "A", 0), (0, "A", 1), (1, "A", 0), (1, "A", 1), (3, "A", 0), (3, "A", 1)))
        self.assertEqual(holdings(EXAMPLE, FIRST), (
            (("A", 0), ("A", 1)), (("A", 0), ("A", 1)), (("A", 0), ("A", 1))))
        self.assertEqual(tree(EXAMPLE, FIRST, "A", 0), ((0, 2), "ABC"))
        self.assertEqual(tree(EXAMPLE, FIRST, "A", 1), ((1, 3), "ABC"))
        self.assertEqual(time_slots(EXAMPLE, FIRST), (1, 1, 2, 1))

    def test_a_link_less(self):
        self.assertIsNone(first_schedule(LACKING))
        self.assertEqual(next_transmissions(LACKING, ()), ())
        self.assertEqual(schedule_fault(LACKING, ((2, "A", 0),)), (0, "deficient", "B"))


class Edges(unittest.TestCase):
    def test_no_transmissions(self):
        for none in ((), []):
            self.assertIs(is_complete(EXAMPLE, none), False)
            self.assertIsNone(schedule_fault(EXAMPLE, none))
            self.assertIsNone(schedule_fault(LACKING, none))
            self.assertEqual(holdings(EXAMPLE, none), ((("A", 0), ("A", 1)), (), ()))
            self.assertEqual(tree(EXAMPLE, none, "A", 1), ((), "A"))
            self.assertEqual(time_slots(EXAMPLE, none), ())

    def test_networks_that_need_none(self):
        for text in ("0: ;", "1: a ;", "6: | | ; AB, BC", "2: a, b | b, ab ; AB", "1: a | a | a ;"):
            network = read_network(text)
            with self.subTest(text=text):
                self.assertEqual(first_schedule(network), ())
                self.assertIs(is_complete(network, ()), True)
                self.assertEqual(next_transmissions(network, ()), ())

    def test_networks_with_a_deficient_set(self):
        for text in DEFICIENT + GREATEST[4:]:
            network = read_network(text)
            with self.subTest(text=text):
                self.assertIsNone(first_schedule(network))
                self.assertEqual(next_transmissions(network, ()), ())
                self.assertIsNone(schedule_fault(network, ()))
                self.assertIs(is_complete(network, ()), False)

    def test_feasible_networks(self):
        for text in FEASIBLE + GREATEST[:4]:
            network = read_network(text)
            schedule = first_schedule(network)
            with self.subTest(text=text):
                self.assertTrue(reference.after_all(network, schedule).is_over())
                self.assertTrue(is_schedule(network, schedule))
                self.assertIs(is_complete(network, schedule), True)
                self.assertIsNone(schedule_fault(network, schedule))
                for node in network.node_letters():
                    received = [link for link, _, _ in schedule if network.links[link][1] == node]
                    self.assertEqual(len(received), node_set(network, node)[1])

    def test_a_schedule_cut_off(self):
        for length in range(len(FIRST)):
            self.assertIs(is_complete(EXAMPLE, FIRST[:length]), False)
            self.assertIsNone(schedule_fault(EXAMPLE, FIRST[:length]))
            self.assertEqual(next_transmissions(EXAMPLE, FIRST[:length])[0], FIRST[length])

    def test_a_transmission_twice(self):
        twice = FIRST[:2] + FIRST[:1] + FIRST[2:]
        self.assertIs(is_complete(EXAMPLE, twice), False)
        self.assertEqual(schedule_fault(EXAMPLE, twice), (2, "used", None))
        self.assertIsNone(next_transmissions(EXAMPLE, twice))
        self.assertIsNone(holdings(EXAMPLE, twice))
        self.assertIsNone(tree(EXAMPLE, twice, "A", 0))
        self.assertIsNone(time_slots(EXAMPLE, twice))
        self.assertIs(is_complete(EXAMPLE, FIRST + FIRST[:1]), False)

    def test_a_message_that_is_known(self):
        known = ((0, "A", 0), (1, "A", 0), (2, "A", 0), (3, "A", 1))
        self.assertEqual(schedule_fault(EXAMPLE, known), (1, "known", None))
        self.assertIs(is_complete(EXAMPLE, known), False)
        self.assertIsNone(next_transmissions(EXAMPLE, known))
        self.assertIsNone(holdings(EXAMPLE, known))
        self.assertIsNone(tree(EXAMPLE, known, "A", 0))
        self.assertIsNone(time_slots(EXAMPLE, known))
        # Everything is known at the end, but one transmission more is no schedule.
        network = read_network("1: a | ; AB, AB")
        self.assertIs(is_complete(network, ((0, "A", 0),)), True)
        self.assertIs(is_complete(network, ((0, "A", 0), (1, "A", 0))), False)

    def test_known_as_a_sum(self):
        network = read_network("2: a, b, ab | ; AB, AB, AB")
        self.assertEqual(schedule_fault(network, ((0, "A", 0), (1, "A", 2), (2, "A", 1))), (2, "known", None))
        self.assertIs(is_complete(network, ((0, "A", 0), (1, "A", 2))), True)
        network = read_network("2: ab | a | b ; AB, BC, CA")
        self.assertIsNone(schedule_fault(network, ((2, "C", 0),)))
        self.assertEqual(schedule_fault(network, ((0, "A", 0), (1, "A", 0), (2, "A", 0))), (2, "known", None))

    def test_missing(self):
        self.assertEqual(schedule_fault(EXAMPLE, ((2, "A", 0),)), (0, "missing", None))
        self.assertEqual(schedule_fault(EXAMPLE, ((0, "A", 0), (2, "A", 1))), (1, "missing", None))
        self.assertIsNone(holdings(EXAMPLE, ((2, "A", 0), (0, "A", 0))))
        self.assertIsNone(time_slots(EXAMPLE, ((2, "A", 0), (0, "A", 0))))
        self.assertIs(is_complete(EXAMPLE, ((2, "A", 0),)), False)
        self.assertIsNone(next_transmissions(EXAMPLE, ((2, "A", 0),)))

    def test_the_first_reason_where_two_hold(self):
        network = read_network("2: a, b | | a ; AB, AB, AB, BC, BC, CA")
        # Used and known, and used and missing.
        self.assertEqual(schedule_fault(network, ((0, "A", 0), (0, "A", 0))), (1, "used", None))
        self.assertEqual(schedule_fault(network, ((0, "A", 0), (0, "C", 0))), (1, "used", None))
        # Missing and known: B can derive a, but A does not have it as the message of C.
        self.assertEqual(schedule_fault(network, ((0, "A", 0), (1, "C", 0))), (1, "missing", None))
        # Missing and known: C itself has the message that its sender lacks.
        self.assertEqual(schedule_fault(network, ((3, "C", 0),)), (0, "missing", None))
        # Missing or known, where a set is deficient from the beginning and stays so.
        network = read_network("1: a | | a | ; BA, AC, AB")
        self.assertEqual(first_deficient(network), "D")
        self.assertEqual(schedule_fault(network, ((0, "A", 0),)), (0, "missing", None))
        self.assertEqual(schedule_fault(network, ((1, "A", 0),)), (0, "known", None))
        self.assertEqual(schedule_fault(network, ((2, "A", 0), (2, "A", 0))), (0, "deficient", "D"))

    def test_the_first_transmission_with_which_something_is_wrong(self):
        network = read_network("1: a | | ; AB, BC, CB, AB")
        self.assertEqual(schedule_fault(network, ((0, "A", 0), (0, "A", 0), (2, "A", 0))), (1, "used", None))
        self.assertEqual(schedule_fault(network, ((0, "A", 0), (2, "A", 0), (0, "A", 0))), (1, "missing", None))
        self.assertEqual(schedule_fault(network, ((0, "A", 0), (3, "A", 0), (2, "A", 0))), (1, "known", None))

    def test_deficient(self):
        # The first message leaves too few links for B and C, which need both.
        network = read_network("2: a, b | | ; AB, AC, BC, CB")
        self.assertEqual(schedule_fault(network, ((0, "A", 0), (1, "A", 0))), (1, "deficient", "BC"))
        self.assertEqual(schedule_fault(network, ((0, "A", 0), (1, "A", 0), (0, "A", 0))), (1, "deficient", "BC"))
        self.assertIsNone(schedule_fault(network, ((0, "A", 0), (1, "A", 1))))
        self.assertEqual(next_transmissions(network, ((0, "A", 0),)), ((1, "A", 1), (2, "A", 0)))
        self.assertEqual(next_transmissions(network, ((0, "A", 0), (1, "A", 0))), ())
        # A schedule it is all the same.
        self.assertEqual(holdings(network, ((0, "A", 0), (1, "A", 0))), (
            (("A", 0), ("A", 1)), (("A", 0),), (("A", 0),)))
        self.assertEqual(time_slots(network, ((0, "A", 0), (1, "A", 0))), (1, 1))
        self.assertEqual(tree(network, ((0, "A", 0), (1, "A", 0)), "A", 0), ((0, 1), "ABC"))
        self.assertIs(is_complete(network, ((0, "A", 0), (1, "A", 0))), False)

    def test_deficient_from_the_beginning(self):
        network = read_network("2: a, b | | ; AB, BC, AC, BC")
        self.assertEqual(first_deficient(network), "B")
        self.assertEqual(schedule_fault(network, ((2, "A", 0), (2, "A", 0))), (0, "deficient", "B"))
        self.assertIsNone(schedule_fault(network, ()))
        self.assertEqual(holdings(network, ((2, "A", 0),)), ((("A", 0), ("A", 1)), (), (("A", 0),)))
        self.assertEqual(next_transmissions(network, ((2, "A", 0),)), ())
        # The set that is told is the first one then, not the first one at the beginning.
        network = read_network("2: ab | ab, a | ab | ; DA, AD, CD, DC")
        self.assertEqual(first_deficient(network), "ACD")
        self.assertEqual(schedule_fault(network, ((1, "A", 0),)), (0, "deficient", "CD"))
        self.assertEqual(schedule_fault(network, ((2, "C", 0),)), (0, "deficient", "AD"))

    def test_transmissions_as_lists(self):
        rows = [list(transmission) for transmission in FIRST]
        for told in (rows, tuple(rows), list(FIRST), [FIRST[0], rows[1], FIRST[2], rows[3]]):
            self.assertIs(is_complete(EXAMPLE, told), True)
            self.assertIsNone(schedule_fault(EXAMPLE, told))
            self.assertEqual(next_transmissions(EXAMPLE, told), ())
            self.assertEqual(next_transmissions(EXAMPLE, told[:3]), (FIRST[3],))
            self.assertEqual(holdings(EXAMPLE, told), ((("A", 0), ("A", 1)),) * 3)
            self.assertEqual(tree(EXAMPLE, told, "A", 0), ((0, 2), "ABC"))
            self.assertEqual(time_slots(EXAMPLE, told), (1, 1, 2, 1))

    def test_two_messages_with_the_same_letters_are_different_ones(self):
        network = read_network("1: a, a | | a ; AB, CB, BA, AB")
        self.assertEqual(first_schedule(network), ((0, "A", 0),))
        self.assertEqual(next_transmissions(network, ()), (
            (0, "A", 0), (0, "A", 1), (1, "C", 0), (3, "A", 0), (3, "A", 1)))
        self.assertEqual(schedule_fault(network, ((0, "C", 0),)), (0, "missing", None))
        self.assertEqual(schedule_fault(network, ((1, "A", 1),)), (0, "missing", None))
        self.assertEqual(schedule_fault(network, ((0, "A", 1), (1, "C", 0))), (1, "known", None))
        self.assertEqual(tree(network, ((0, "A", 1),), "A", 0), ((), "A"))
        self.assertEqual(tree(network, ((0, "A", 1),), "A", 1), ((0,), "AB"))
        self.assertEqual(tree(network, ((1, "C", 0),), "C", 0), ((0,), "BC"))
        self.assertEqual(holdings(network, ((0, "A", 1),)), ((("A", 0), ("A", 1)), (("A", 1),), (("C", 0),)))

    def test_along_several_links(self):
        schedule = ((0, "A", 0), (3, "A", 1), (1, "A", 1), (4, "A", 0), (2, "A", 1))
        self.assertIsNone(schedule_fault(LINE, schedule))
        self.assertIs(is_complete(LINE, schedule), True)
        self.assertEqual(time_slots(LINE, schedule), (1, 1, 2, 2, 3))
        self.assertEqual(holdings(LINE, schedule), (
            (("A", 0), ("A", 1)), (("A", 0), ("A", 1)), (("C", 0), ("A", 1)), (("A", 0), ("A", 1))))
        self.assertEqual(tree(LINE, schedule, "A", 0), ((0, 3), "ABD"))
        self.assertEqual(tree(LINE, schedule, "A", 1), ((1, 2, 4), "ABCD"))
        self.assertEqual(tree(LINE, schedule, "C", 0), ((), "C"))
        other = ((3, "A", 1), (1, "A", 1), (2, "C", 0), (0, "A", 0), (4, "A", 0))
        self.assertEqual(time_slots(LINE, other[:4]), (1, 2, 1, 1))
        self.assertEqual(schedule_fault(LINE, other), (4, "known", None))
        self.assertEqual(holdings(LINE, other[:3]), (
            (("A", 0), ("A", 1)), (("A", 1),), (("C", 0), ("A", 1)), (("C", 0),)))
        self.assertEqual(tree(LINE, other[:3], "C", 0), ((2,), "CD"))
        chain = read_network("1: a | | | | | ; EF, DE, CD, BC, AB")
        schedule = ((4, "A", 0), (3, "A", 0), (2, "A", 0), (1, "A", 0), (0, "A", 0))
        self.assertEqual(first_schedule(chain), schedule)
        self.assertEqual(time_slots(chain, schedule), (1, 2, 3, 4, 5))
        self.assertEqual(tree(chain, schedule[:3], "A", 0), ((0, 1, 2), "ABCD"))

    def test_messages_received_keep_the_order_in_which_they_came(self):
        self.assertEqual(holdings(EXAMPLE, ((1, "A", 1), (0, "A", 0))), (
            (("A", 0), ("A", 1)), (("A", 1), ("A", 0)), ()))
        network = read_network("3: a | b | c ; CB, AB")
        self.assertEqual(holdings(network, ((1, "A", 0), (0, "C", 0)))[1], (("B", 0), ("A", 0), ("C", 0)))
        self.assertEqual(holdings(network, ((0, "C", 0), (1, "A", 0)))[1], (("B", 0), ("C", 0), ("A", 0)))

    def test_next_ones_are_in_order(self):
        network = read_network("3: b, a | c | ; BC, AC, AC, AC, BC, AB, AB, BA")
        told = next_transmissions(network, ((5, "A", 1),))
        self.assertEqual(list(told), sorted(told))
        self.assertEqual(told[:3], ((0, "A", 1), (0, "B", 0), (1, "A", 0)))


class TryingEverything(unittest.TestCase):
    def test_the_first_of_all_schedules(self):
        lengths = []
        for network in small_networks(250, 41) + with_shuffled_links(NEEDING_MORE, 6, 42):
            expected = reference.first_complete(reference.Course(network))
            lengths.append(None if expected is None else len(expected))
            with self.subTest(text=write_network(network)):
                self.assertEqual(first_schedule(network), expected)
                self.assertEqual(first_schedule(network) is None, first_deficient(network) is not None)
        for length in (None, 0, 1, 2, 3, 4):
            self.assertGreater(lengths.count(length), 2, length)

    def test_the_first_schedule_takes_the_first_ones_again_and_again(self):
        for text in FEASIBLE + GREATEST[:4]:
            network = read_network(text)
            schedule = first_schedule(network)
            course = reference.Course(network)
            for transmission in schedule:
                with self.subTest(text=text, transmission=transmission):
                    earlier = [other for other in course.possible() if other < transmission]
                    for other in earlier:
                        self.assertTrue(course.after(other).deficient(), other)
                course = course.after(transmission)

    def test_what_can_come_next(self):
        for network, schedule in many_schedules(150, 43):
            course = reference.after_all(network, schedule)
            with self.subTest(text=write_network(network), schedule=schedule):
                self.assertEqual(next_transmissions(network, schedule), tuple(course.next_ones()))

    def test_a_schedule_can_be_continued_exactly_if_no_set_is_deficient(self):
        answers = set()
        chance = random.Random(44)
        for network in small_networks(120, 45) + with_shuffled_links(NEEDING_MORE, 6, 50):
            schedule = some_schedule(chance, network)
            course = reference.after_all(network, schedule)
            expected = reference.first_complete(course) is not None
            answers.add((expected, bool(schedule)))
            with self.subTest(text=write_network(network), schedule=schedule):
                self.assertEqual(bool(next_transmissions(network, schedule)) or is_complete(network, schedule),
                                 expected)
        self.assertEqual(len(answers), 4)

    def test_schedules(self):
        reasons = set()
        for network, schedule in many_schedules(150, 46):
            course = reference.after_all(network, schedule)
            fault = expected_fault(network, schedule)
            reasons.add(fault and fault[1])
            with self.subTest(text=write_network(network), schedule=schedule):
                self.assertEqual(schedule_fault(network, schedule), fault)
                self.assertIs(is_complete(network, schedule), course.is_over())
                self.assertEqual(holdings(network, schedule), tuple(tuple(row) for row in course.had.values()))
        self.assertEqual(reasons, {None, "deficient"})

    def test_other_transmissions(self):
        chance = random.Random(47)
        reasons = set()
        for network, schedule in many_schedules(500, 48):
            told = schedule + any_transmissions(chance, network)
            fault = expected_fault(network, told)
            reasons.add(fault and fault[1])
            with self.subTest(text=write_network(network), told=told):
                self.assertEqual(schedule_fault(network, told), fault)
                if not is_schedule(network, told):
                    self.assertIs(is_complete(network, told), False)
                    self.assertIsNone(next_transmissions(network, told))
                    self.assertIsNone(holdings(network, told))
                    self.assertIsNone(tree(network, told, told[0][1], told[0][2]))
                    self.assertIsNone(time_slots(network, told))
        self.assertEqual(reasons, {None, "used", "missing", "known", "deficient"})

    def test_trees_and_time_slots(self):
        highest = 0
        for network, schedule in many_schedules(150, 49):
            slots = time_slots(network, schedule)
            highest = max((highest,) + slots)
            course = reference.after_all(network, schedule)
            with self.subTest(text=write_network(network), schedule=schedule):
                for number, (link, origin, index) in enumerate(schedule):
                    sender = network.links[link][0]
                    brought = [at for at in range(number) if schedule[at][1:] == (origin, index)
                               and network.links[schedule[at][0]][1] == sender]
                    self.assertEqual(slots[number], 1 if sender == origin else slots[brought[0]] + 1)
                for origin in network.node_letters():
                    for index in range(len(network.messages(origin))):
                        carrying = tuple(number for number, told in enumerate(schedule)
                                         if told[1:] == (origin, index))
                        holders = "".join(node for node, row in course.had.items() if (origin, index) in row)
                        self.assertEqual(tree(network, schedule, origin, index), (carrying, holders))
        self.assertGreater(highest, 2)


class Wrong(unittest.TestCase):
    FUNCTIONS = (is_complete, next_transmissions, schedule_fault, holdings, time_slots)

    def check(self, kind, network, transmissions):
        for function in self.FUNCTIONS:
            with self.subTest(function=function.__name__, transmissions=transmissions):
                self.assertRaises(kind, function, network, transmissions)
        for message in (("A", 0), ("Z", 0), ("A", 9)):
            with self.subTest(transmissions=transmissions, message=message):
                self.assertRaises(kind, tree, network, transmissions, *message)

    def test_no_link(self):
        for link in (-1, -2, -4, -5, 4, 5, 100):
            self.check(NoLink, EXAMPLE, ((link, "A", 0),))
            self.check(NoLink, EXAMPLE, [(0, "A", 0), [link, "A", 1]])
        self.check(NoLink, read_network("1: a ;"), ((0, "A", 0),))

    def test_no_node(self):
        for node in OTHER_NODES:
            self.check(NoNode, EXAMPLE, ((0, node, 0),))
            self.check(NoNode, EXAMPLE, [(0, "A", 0), [1, node, 0]])

    def test_no_message(self):
        for index in (-1, -2, -3, 2, 3, 100):
            self.check(NoMessage, EXAMPLE, ((0, "A", index),))
            self.check(NoMessage, EXAMPLE, [(0, "A", 0), [1, "A", index]])
        self.check(NoMessage, EXAMPLE, ((0, "B", 0),))
        # What a node received is no message of its own.
        self.check(NoMessage, EXAMPLE, ((0, "A", 0), (2, "B", 0)))

    def test_several_at_once(self):
        self.check(NoLink, EXAMPLE, ((9, "Z", 9),))
        self.check(NoLink, EXAMPLE, ((-1, "A", 9),))
        self.check(NoNode, EXAMPLE, ((0, "Z", 9),))
        self.check(NoNode, EXAMPLE, ((0, "", -1),))

    def test_the_first_wrong_one_is_told(self):
        self.check(NoMessage, EXAMPLE, ((0, "A", 9), (0, "Z", 0), (9, "A", 0)))
        self.check(NoNode, EXAMPLE, ((0, "A", 0), (0, "Z", 0), (9, "A", 0), (0, "A", 9)))
        self.check(NoLink, EXAMPLE, ((0, "A", 0), (1, "A", 1), (9, "A", 0), (0, "Z", 0)))

    def test_they_come_ahead_of_what_is_no_schedule(self):
        self.check(NoLink, EXAMPLE, ((0, "A", 0), (0, "A", 0), (9, "A", 0)))
        self.check(NoNode, EXAMPLE, ((2, "A", 0), (0, "Z", 0)))
        self.check(NoMessage, EXAMPLE, ((0, "A", 0), (1, "A", 0), (2, "A", 2)))
        self.check(NoMessage, LACKING, ((0, "A", 0), (1, "A", 5)))

    def test_the_message_of_a_tree(self):
        for schedule in (FIRST, (), FIRST + FIRST, [[2, "A", 0]]):
            for node in OTHER_NODES:
                for index in (0, -1, 9):
                    with self.subTest(schedule=schedule, node=node, index=index):
                        self.assertRaises(NoNode, tree, EXAMPLE, schedule, node, index)
            for index in (-1, -2, 2, 100):
                with self.subTest(schedule=schedule, index=index):
                    self.assertRaises(NoMessage, tree, EXAMPLE, schedule, "A", index)
            self.assertRaises(NoMessage, tree, EXAMPLE, schedule, "B", 0)


if __name__ == "__main__":
    unittest.main()
