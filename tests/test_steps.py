"""[C1], [C2], [C3]: steps in which links carry any parities."""

import random
import unittest

from allknow.networks import NoNode
from allknow.spans import BadParity
from allknow.steps import (Fault, can_swap, carried, earliest, fault, idle_steps, informed, known, ranks,
                           reduced)
from allknow.texts import read_network
from tests import reference
from tests.samples import small_network

EXAMPLE = read_network("2: a, b | | ; AB, AB, BC, AC")
STEPS = ((0, "ab"), (1, "a"), (2, "b"), (3, "a"))

# Texts that no link carries, whatever its sender has.
NO_PARITIES = ("ba", "aa", "A", " ", "a ", "1", "i", "\u00e4", "aab", "a,b")
OTHER_NODES = ("", "D", "a", "AB", " ", "BA", "ABC", "1")


def some_steps(chance, network):
    """Steps without a fault, idle ones among them."""
    steps = []
    course = reference.Course(network)
    links = list(range(len(network.links)))
    chance.shuffle(links)
    for link in links[:chance.randint(0, len(links))]:
        sender = network.links[link][0]
        parity = chance.choice(sorted(reference.sums(tuple(course.rows[sender]))))
        steps.append((link, parity))
        course = course.carried(link, parity)
    return tuple(steps)


def many_cases(count, seed):
    """Networks with steps that have no fault."""
    chance = random.Random(seed)
    found = [(EXAMPLE, STEPS)]
    while len(found) < count:
        network = small_network(chance, 4, 4, 3, 6)
        if network.links and network.all_messages():
            found.append((network, some_steps(chance, network)))
    return found


def twisted(chance, network, steps):
    """Steps changed at one place, which often have a fault then."""
    steps = [list(step) for step in steps]
    if not steps:
        return [(chance.choice((-1, len(network.links))), "")]
    at = chance.randrange(len(steps))
    twist = chance.randrange(5)
    if twist == 0:
        steps[at][0] = chance.choice((-1, -2, len(network.links), 100, steps[0][0]))
    elif twist == 1:
        steps[at][1] = chance.choice(NO_PARITIES + ("f", "g", "h", "a", "b", "ab", ""))
    elif twist == 2:
        steps.insert(at, list(chance.choice(steps)))
    elif twist == 3:
        chance.shuffle(steps)
    else:
        del steps[at]
    return steps


class Examples(unittest.TestCase):
    def test_the_examples_of_the_document(self):
        self.assertEqual(informed(EXAMPLE, STEPS), "ABC")
        self.assertEqual(known(EXAMPLE, STEPS, "C"), ("b", "a"))
        self.assertEqual(earliest(EXAMPLE, STEPS, "B", "b"), 2)
        self.assertEqual(carried(EXAMPLE, STEPS, "a"), (True, True, False, True))
        self.assertIs(can_swap(EXAMPLE, STEPS, 1), False)
        self.assertEqual(fault(EXAMPLE, ((0, "a"), (2, "b"))), 1)

    def test_the_others_for_the_same_steps(self):
        self.assertIsNone(fault(EXAMPLE, STEPS))
        self.assertEqual(ranks(EXAMPLE, STEPS), (2, 2, 2))
        self.assertEqual(known(EXAMPLE, STEPS, "A"), ("a", "b"))
        self.assertEqual(known(EXAMPLE, STEPS, "B"), ("ab", "a"))
        self.assertEqual(idle_steps(EXAMPLE, STEPS), ())
        self.assertEqual(reduced(EXAMPLE, STEPS), STEPS)
        self.assertIs(can_swap(EXAMPLE, STEPS, 0), True)
        self.assertIs(can_swap(EXAMPLE, STEPS, 2), True)

    def test_part_of_the_steps(self):
        self.assertEqual(ranks(EXAMPLE, STEPS[:1]), (2, 1, 0))
        self.assertEqual(informed(EXAMPLE, STEPS[:1]), "A")
        self.assertEqual(ranks(EXAMPLE, STEPS[:2]), (2, 2, 0))
        self.assertEqual(informed(EXAMPLE, STEPS[:2]), "AB")
        self.assertEqual(ranks(EXAMPLE, STEPS[:3]), (2, 2, 1))
        self.assertEqual(informed(EXAMPLE, STEPS[:3]), "AB")


class Edges(unittest.TestCase):
    def test_no_steps(self):
        for steps in ((), []):
            self.assertIsNone(fault(EXAMPLE, steps))
            self.assertEqual(ranks(EXAMPLE, steps), (2, 0, 0))
            self.assertEqual(informed(EXAMPLE, steps), "A")
            self.assertEqual(known(EXAMPLE, steps, "A"), ("a", "b"))
            self.assertEqual(known(EXAMPLE, steps, "B"), ())
            self.assertEqual(earliest(EXAMPLE, steps, "A", "ab"), 0)
            self.assertIsNone(earliest(EXAMPLE, steps, "B", "ab"))
            self.assertEqual(carried(EXAMPLE, steps, "ab"), ())
            self.assertEqual(idle_steps(EXAMPLE, steps), ())
            self.assertEqual(reduced(EXAMPLE, steps), ())

    def test_a_link_used_twice(self):
        self.assertEqual(fault(EXAMPLE, ((0, "a"), (0, "b"))), 1)
        self.assertEqual(fault(EXAMPLE, ((0, "a"), (1, "b"), (2, "a"), (0, "a"))), 3)
        self.assertEqual(fault(EXAMPLE, ((0, ""), (0, ""))), 1)
        # Two links that lead alike are different ones.
        self.assertIsNone(fault(EXAMPLE, ((0, "a"), (1, "a"))))

    def test_a_link_number_that_there_is_not(self):
        for link in (-1, -2, -4, -5, 4, 5, 100):
            with self.subTest(link=link):
                self.assertEqual(fault(EXAMPLE, ((link, "a"),)), 0)
                self.assertEqual(fault(EXAMPLE, ((link, ""),)), 0)
                self.assertEqual(fault(EXAMPLE, ((0, "a"), (link, "a"), (1, "b"))), 1)
        self.assertEqual(fault(read_network("1: a ;"), ((0, ""),)), 0)

    def test_a_parity_that_the_sender_cannot_derive(self):
        self.assertEqual(fault(EXAMPLE, ((2, "a"),)), 0)
        self.assertEqual(fault(EXAMPLE, ((0, "ab"), (2, "a"))), 1)
        self.assertIsNone(fault(EXAMPLE, ((0, "ab"), (2, "ab"))))
        self.assertIsNone(fault(EXAMPLE, ((0, "ab"), (1, "b"), (2, "a"))))
        network = read_network("3: ab, bc | ; AB")
        self.assertIsNone(fault(network, ((0, "ac"),)))
        self.assertEqual(fault(network, ((0, "a"),)), 0)

    def test_what_the_receiver_of_a_link_has_does_not_help(self):
        network = read_network("1: a | ; BA")
        self.assertEqual(fault(network, ((0, "a"),)), 0)

    def test_a_letter_that_is_no_variable(self):
        for parity in ("c", "ac", "abc", "h", "g", "abh"):
            self.assertEqual(fault(EXAMPLE, ((0, parity),)), 0)
            self.assertEqual(fault(EXAMPLE, ((0, "a"), (1, parity))), 1)

    def test_a_text_that_is_no_parity(self):
        for text in NO_PARITIES:
            with self.subTest(text=text):
                self.assertEqual(fault(EXAMPLE, ((0, text),)), 0)
                self.assertEqual(fault(EXAMPLE, ((0, "a"), (1, "b"), (2, text), (3, text))), 2)

    def test_the_same_step_is_fine_later(self):
        self.assertEqual(fault(EXAMPLE, ((2, "b"), (0, "b"))), 0)
        self.assertIsNone(fault(EXAMPLE, ((0, "b"), (2, "b"))))
        self.assertEqual(fault(EXAMPLE, ((0, "ab"), (2, "b"), (1, "a"))), 1)
        self.assertIsNone(fault(EXAMPLE, ((0, "ab"), (1, "a"), (2, "b"))))

    def test_the_empty_parity(self):
        steps = ((2, ""), (0, "a"))
        self.assertIsNone(fault(EXAMPLE, steps))
        self.assertEqual(idle_steps(EXAMPLE, steps), (0,))
        self.assertEqual(reduced(EXAMPLE, steps), ((0, "a"),))
        self.assertEqual(known(EXAMPLE, steps, "C"), ())
        self.assertEqual(ranks(EXAMPLE, steps), (2, 1, 0))
        self.assertEqual(carried(EXAMPLE, steps, "ab"), (False, True))
        self.assertEqual(earliest(EXAMPLE, steps, "C", ""), 0)
        empty = read_network("0: | ; AB")
        self.assertIsNone(fault(empty, ((0, ""),)))
        self.assertEqual(informed(empty, ((0, ""),)), "AB")
        self.assertEqual(fault(empty, ((0, "a"),)), 0)

    def test_idle_steps_and_what_is_left(self):
        steps = [[0, "ab"], (1, "ab"), [2, "ab"], (3, "ab")]
        self.assertEqual(idle_steps(EXAMPLE, steps), (1, 3))
        self.assertEqual(reduced(EXAMPLE, steps), ((0, "ab"), (2, "ab")))
        network = read_network("2: a, b | a | ; AB, AB, AB, BA, BC")
        steps = ((0, "ab"), (1, "b"), (3, "a"), (2, "a"), (4, "b"))
        self.assertEqual(idle_steps(network, steps), (1, 2, 3))
        self.assertEqual(reduced(network, steps), ((0, "ab"), (4, "b")))

    def test_what_an_idle_step_brought_is_had_but_not_in_the_basis(self):
        network = read_network("2: a, b, ab | b ; AB, AB")
        self.assertEqual(known(network, ((0, "ab"), (1, "a")), "B"), ("b", "ab"))
        self.assertEqual(known(network, (), "A"), ("a", "b"))
        self.assertEqual(ranks(network, ((0, "ab"), (1, "a"))), (2, 2))

    def test_known_tells_what_came_as_it_came(self):
        network = read_network("3: abc, bc, c | b ; AB, AB, AB")
        self.assertEqual(known(network, ((2, "abc"), (0, "ac"), (1, "bc")), "B"), ("b", "abc", "bc"))
        self.assertEqual(known(network, ((1, "bc"), (0, "c"), (2, "ac")), "B"), ("b", "bc", "ac"))

    def test_earliest(self):
        self.assertEqual(earliest(EXAMPLE, STEPS, "A", "a"), 0)
        self.assertEqual(earliest(EXAMPLE, STEPS, "A", "ab"), 0)
        self.assertEqual(earliest(EXAMPLE, STEPS, "B", ""), 0)
        self.assertEqual(earliest(EXAMPLE, STEPS, "B", "ab"), 1)
        self.assertEqual(earliest(EXAMPLE, STEPS, "B", "a"), 2)
        self.assertEqual(earliest(EXAMPLE, STEPS, "C", "b"), 3)
        self.assertEqual(earliest(EXAMPLE, STEPS, "C", "a"), 4)
        self.assertEqual(earliest(EXAMPLE, STEPS, "C", "ab"), 4)
        self.assertIsNone(earliest(EXAMPLE, STEPS[:3], "C", "a"))
        self.assertIsNone(earliest(EXAMPLE, STEPS, "C", "c"))
        self.assertIsNone(earliest(EXAMPLE, STEPS, "A", "abh"))

    def test_letters_of_an_assignment_that_are_no_variables_do_not_matter(self):
        self.assertEqual(carried(EXAMPLE, STEPS, "acdefgh"), (True, True, False, True))
        self.assertEqual(carried(EXAMPLE, STEPS, "h"), (False,) * 4)
        self.assertEqual(carried(EXAMPLE, STEPS, ""), (False,) * 4)
        self.assertEqual(carried(EXAMPLE, STEPS, "ab"), (False, True, True, True))

    def test_can_swap_at_the_first_and_at_the_last_place(self):
        self.assertIs(can_swap(EXAMPLE, ((0, "a"), (2, "a"), (3, "b")), 0), False)
        self.assertIs(can_swap(EXAMPLE, ((0, "a"), (2, "a"), (3, "b")), 1), True)
        self.assertIs(can_swap(EXAMPLE, ((3, "b"), (0, "a"), (2, "a")), 0), True)
        self.assertIs(can_swap(EXAMPLE, ((3, "b"), (0, "a"), (2, "a")), 1), False)
        self.assertIs(can_swap(EXAMPLE, [(0, "a"), [1, "b"]], 0), True)

    def test_can_swap_where_there_are_no_two_such_steps(self):
        for number in (-2, -1, 3, 4):
            self.assertIs(can_swap(EXAMPLE, STEPS, number), False)
            self.assertIs(can_swap(EXAMPLE, ((0, "a"), (1, "b")), number), False)
        self.assertIs(can_swap(EXAMPLE, (), 0), False)
        self.assertIs(can_swap(EXAMPLE, ((0, "a"),), 0), False)

    def test_can_swap_where_only_a_later_step_could_go_wrong(self):
        network = read_network("1: a | | | ; AB, BC, CD")
        steps = ((0, "a"), (1, "a"), (2, "a"))
        self.assertIs(can_swap(network, steps, 0), False)
        self.assertIs(can_swap(network, steps, 1), False)
        self.assertIs(can_swap(network, ((0, "a"), (2, ""), (1, "a")), 1), True)

    def test_informed_needs_all_messages(self):
        network = read_network("2: a | b | ; AB, BC, BC, BA")
        self.assertEqual(informed(network, ()), "")
        self.assertEqual(informed(network, ((0, "a"),)), "B")
        self.assertEqual(informed(network, ((0, "a"), (1, "ab"))), "B")
        self.assertEqual(informed(network, ((0, "a"), (1, "ab"), (2, "a"))), "BC")
        self.assertEqual(informed(network, ((0, "a"), (1, "ab"), (2, "a"), (3, "ab"))), "ABC")
        self.assertEqual(informed(read_network("3: ab | ab | ;"), ()), "AB")
        self.assertEqual(informed(read_network("6: | ;"), ()), "AB")

    def test_tuples_and_lists_also_mixed(self):
        for steps in (STEPS, list(STEPS), [list(step) for step in STEPS], tuple(list(step) for step in STEPS),
                      [(0, "ab"), [1, "a"], (2, "b"), [3, "a"]]):
            self.assertIsNone(fault(EXAMPLE, steps))
            self.assertEqual(ranks(EXAMPLE, steps), (2, 2, 2))
            self.assertEqual(informed(EXAMPLE, steps), "ABC")
            self.assertEqual(known(EXAMPLE, steps, "C"), ("b", "a"))
            self.assertEqual(earliest(EXAMPLE, steps, "B", "b"), 2)
            self.assertEqual(carried(EXAMPLE, steps, "a"), (True, True, False, True))
            self.assertEqual(idle_steps(EXAMPLE, steps), ())
            self.assertEqual(reduced(EXAMPLE, steps), STEPS)
            self.assertIs(can_swap(EXAMPLE, steps, 1), False)
            self.assertIs(can_swap(EXAMPLE, steps, 2), True)


class TryingEverything(unittest.TestCase):
    def test_fault(self):
        chance = random.Random(21)
        faults = set()
        for network, steps in many_cases(150, 22):
            self.assertIsNone(fault(network, steps))
            for _ in range(6):
                changed = twisted(chance, network, steps)
                expected = reference.fault(network, changed)
                faults.add(expected)
                with self.subTest(network=network.nodes, links=network.links, steps=changed):
                    self.assertEqual(fault(network, changed), expected)
        self.assertLessEqual({None, 0, 1, 2, 3}, faults)

    def test_what_nodes_have_behind_the_steps(self):
        for network, steps in many_cases(80, 23):
            courses = reference.courses(network, steps)
            rows = courses[-1].rows
            everything = reference.sums(tuple(network.all_messages()))
            with self.subTest(network=network.nodes, links=network.links, steps=steps):
                self.assertEqual(ranks(network, steps), tuple(reference.rank(row) for row in rows.values()))
                self.assertEqual(informed(network, steps), "".join(
                    node for node, row in rows.items() if reference.sums(tuple(row)) == everything))
                for node, row in rows.items():
                    self.assertEqual(known(network, steps, node), reference.basis_texts(row))
                    for parity in reference.parities(network.variable_letters()):
                        counts = [count for count, course in enumerate(courses) if course.derives(node, parity)]
                        self.assertEqual(earliest(network, steps, node, parity), counts[0] if counts else None)

    def test_carried(self):
        for network, steps in many_cases(40, 24):
            for assignment in reference.parities("abcdefg"):
                self.assertEqual(carried(network, steps, assignment),
                                 tuple(reference.is_odd(parity, assignment) for _, parity in steps))

    def test_idle_steps_and_the_others(self):
        lengths = set()
        for network, steps in many_cases(120, 25):
            courses = reference.courses(network, steps)
            expected = tuple(number for number, (link, parity) in enumerate(steps)
                             if courses[number].derives(network.links[link][1], parity))
            lengths.add(len(expected))
            with self.subTest(network=network.nodes, links=network.links, steps=steps):
                self.assertEqual(idle_steps(network, steps), expected)
                others = reduced(network, steps)
                self.assertEqual(others, tuple(step for number, step in enumerate(steps) if number not in expected))
                # [C2]: the others can be done, and every node can derive behind them what it could.
                self.assertIsNone(fault(network, others))
                self.assertEqual(idle_steps(network, others), ())
                for node, row in courses[-1].rows.items():
                    self.assertEqual(known(network, others, node), reference.basis_texts(row))
        self.assertLessEqual({0, 1, 2}, lengths)

    def test_can_swap(self):
        answers = []
        for network, steps in many_cases(300, 26):
            for number in range(len(steps) - 1):
                swapped = steps[:number] + (steps[number + 1], steps[number]) + steps[number + 2:]
                expected = reference.fault(network, swapped) is None
                answers.append(expected)
                with self.subTest(network=network.nodes, links=network.links, steps=steps, number=number):
                    self.assertIs(can_swap(network, steps, number), expected)
        self.assertGreater(answers.count(False), 10)
        self.assertGreater(answers.count(True), 10)

    def test_a_node_derives_what_no_two_assignments_tell_apart(self):
        for network, steps in many_cases(25, 27):
            every = reference.parities(network.variable_letters())
            for node in network.node_letters():
                had = tuple(network.messages(node)) + tuple(
                    parity for link, parity in steps if network.links[link][1] == node)
                for parity in every:
                    seen = {}
                    for one in every:
                        key = tuple(reference.is_odd(text, one) for text in had)
                        seen.setdefault(key, set()).add(reference.is_odd(parity, one))
                    told = all(len(values) == 1 for values in seen.values())
                    self.assertIs(earliest(network, steps, node, parity) is not None, told)


class Wrong(unittest.TestCase):
    def calls(self, steps, node="A", text="a"):
        """All functions but fault, with these steps and, where they take them, this node and this text."""
        return ((ranks, (EXAMPLE, steps)), (informed, (EXAMPLE, steps)), (known, (EXAMPLE, steps, node)),
                (earliest, (EXAMPLE, steps, node, text)), (carried, (EXAMPLE, steps, text)),
                (idle_steps, (EXAMPLE, steps)), (reduced, (EXAMPLE, steps)), (can_swap, (EXAMPLE, steps, 0)))

    def check_fault(self, function, arguments, number):
        with self.subTest(function=function.__name__, arguments=arguments[1:]):
            with self.assertRaises(Fault) as caught:
                function(*arguments)
            self.assertEqual(caught.exception.number, number)

    def check_parity(self, function, arguments, text):
        with self.subTest(function=function.__name__, arguments=arguments[1:]):
            with self.assertRaises(BadParity) as caught:
                function(*arguments)
            self.assertEqual(caught.exception.text, text)

    def test_fault_with_its_number(self):
        rows = (
            (((2, "a"), (0, "a")), 0),
            ([(0, "a"), [0, "b"]], 1),
            (((0, "a"), (1, "b"), (2, "ab"), (4, "a")), 3),
            (((0, "a"), (-1, "b"), (2, "ab")), 1),
            (((0, "c"), (1, "b")), 0),
            (((0, "a"), (1, "ba")), 1),
            (((0, "a"), (1, "x"), (9, "y")), 1),
            (((0, "a"), (2, "b"), (1, "b")), 1),
        )
        for steps, number in rows:
            self.assertEqual(fault(EXAMPLE, steps), number)
            for function, arguments in self.calls(steps):
                self.check_fault(function, arguments, number)

    def test_can_swap_does_not_mend_a_fault(self):
        self.check_fault(can_swap, (EXAMPLE, ((2, "a"), (0, "a")), 0), 0)
        self.assertIs(can_swap(EXAMPLE, ((0, "a"), (2, "a")), 0), False)

    def test_no_node(self):
        for node in OTHER_NODES:
            with self.subTest(node=node):
                self.assertRaises(NoNode, known, EXAMPLE, STEPS, node)
                self.assertRaises(NoNode, earliest, EXAMPLE, STEPS, node, "a")
                self.assertRaises(NoNode, known, EXAMPLE, (), node)

    def test_bad_parity(self):
        for text in NO_PARITIES:
            self.check_parity(earliest, (EXAMPLE, STEPS, "B", text), text)
            self.check_parity(earliest, (EXAMPLE, (), "B", text), text)
            self.check_parity(carried, (EXAMPLE, STEPS, text), text)
            self.check_parity(carried, (EXAMPLE, (), text), text)

    def test_the_letters_a_to_h_are_no_error(self):
        for text in ("c", "h", "gh", "abcdefgh"):
            self.assertIsNone(earliest(EXAMPLE, STEPS, "A", text))
            self.assertEqual(len(carried(EXAMPLE, STEPS, text)), 4)

    def test_fault_comes_ahead_of_the_others(self):
        steps = ((0, "a"), (0, "b"))
        for function, arguments in self.calls(steps, "Z", "ba"):
            self.check_fault(function, arguments, 1)
        for function, arguments in self.calls(((0, "ba"),), "", "i"):
            self.check_fault(function, arguments, 0)

    def test_no_node_comes_ahead_of_bad_parity(self):
        self.assertRaises(NoNode, earliest, EXAMPLE, STEPS, "D", "ba")
        self.assertRaises(NoNode, earliest, EXAMPLE, (), "", "")


if __name__ == "__main__":
    unittest.main()
