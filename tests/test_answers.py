"""[0.3]: of the functions of parts B to K together: what they return, what they leave alone, how long they take."""

import copy
import itertools
import random
import time
import unittest

from allknow import (changes, failures, formulas, injections, node_sets, protocols, schedules, sessions, spans, steps,
                     targets)
from allknow.failures import AdaptiveSchedule
from allknow.formulas import Formula
from allknow.protocols import Relay
from allknow.sessions import Session
from allknow.texts import read_network
from tests import reference
from tests.samples import DEFICIENT, FEASIBLE, GREATEST, facts

EXAMPLE = read_network("2: a, b | | ; AB, AB, BC, AC")
MESSAGES = ["ab", "bc", "", "ac", "ab"]
STEPS = [[0, "ab"], (1, "ab"), [2, "ab"], (3, "a")]
SENT = [[0, "A", 0], (1, "A", 1), [2, "A", 0]]
NO_SCHEDULE = [[0, "A", 0], [0, "A", 0]]
PROTOCOL = [[0, "0^1"], (1, "0"), [2, "0&!1|n"]]
LINE = read_network("2: a | b | ; AB, BC")

SPARE = read_network("1: a, a | | ; AB, AC, BC, AB, CB")
EVENTS = [["sent", 0, "A", 0], ("learned", "C", "ab"), ["closed", 2], ("opened", 2), ["added", "CB"], ("lost", 3)]

MODULES = (spans, steps, node_sets, schedules, formulas, protocols, injections, failures, changes, targets, sessions)
# Functions of these files that the others use, and that the document does not list.
HELPERS = ("parity_mask", "network_mask", "feasible_margins")


def formula_tells(text, bits):
    """All that a formula tells."""
    formula = Formula(text)
    return (formula.indices(), formula.value(bits), formula.normal())


def relay_tells(network, steps_told, node, assignment):
    """All that a protocol tells."""
    relay = Relay(network, steps_told)
    return (relay.outputs(assignment), relay.observations(node, assignment), relay.decoders(), relay.confused(node))


def adaptive_tells(network, arrivals):
    """All that an adaptive schedule tells."""
    schedule = AdaptiveSchedule(network)
    told = [(schedule.choice(), schedule.tell(arrived), schedule.lost(), schedule.deficient()) for arrived in arrivals]
    return tuple(told)


def session_tells(network, events, node, parity):
    """All that a session tells, but for its network, which is told by facts."""
    session = Session(network)
    told = tuple(session.record(event) for event in events)
    asked = (session.remaining(), session.first_deficient(), session.next_transmission(), session.holdings(node),
             session.knows(node, parity), session.can_lose(0), session.links(), session.journal())
    return (told, asked, facts(session.network()), session.undo())


def replayed_tells(network, events):
    """What a session that is replayed tells."""
    return sessions.replayed(network, events).journal()

CALLS = (
    (spans.message_rank, (MESSAGES,)),
    (spans.is_derived, (MESSAGES, "ac")),
    (spans.basis, (MESSAGES,)),
    (spans.combination, (MESSAGES, "ac")),
    (spans.combination, (MESSAGES, "a")),
    (spans.separating, (3, MESSAGES, "a")),
    (spans.redundant, (MESSAGES,)),
    (spans.is_equivalent, (MESSAGES, ["ab", "ac"])),
    (spans.odd_ones, (MESSAGES, "ab")),
    (spans.assignments, (3, MESSAGES, [True, True, False, False, True])),
    (steps.fault, (EXAMPLE, STEPS)),
    (steps.ranks, (EXAMPLE, STEPS)),
    (steps.informed, (EXAMPLE, STEPS)),
    (steps.known, (EXAMPLE, STEPS, "C")),
    (steps.earliest, (EXAMPLE, STEPS, "C", "a")),
    (steps.carried, (EXAMPLE, STEPS, "a")),
    (steps.idle_steps, (EXAMPLE, STEPS)),
    (steps.reduced, (EXAMPLE, STEPS)),
    (steps.can_swap, (EXAMPLE, STEPS, 0)),
    (steps.can_swap, (EXAMPLE, STEPS, 2)),
    (node_sets.deficient_sets, (EXAMPLE,)),
    (node_sets.tight_sets, (EXAMPLE,)),
    (node_sets.first_deficient, (EXAMPLE,)),
    (node_sets.node_set, (EXAMPLE, "BC")),
    (node_sets.around, (EXAMPLE, "B")),
    (node_sets.without, (EXAMPLE, "B", "C")),
    (node_sets.can_carry, (EXAMPLE, 0)),
    (schedules.first_schedule, (EXAMPLE,)),
    (schedules.is_complete, (EXAMPLE, SENT)),
    (schedules.next_transmissions, (EXAMPLE, SENT)),
    (schedules.schedule_fault, (EXAMPLE, SENT)),
    (schedules.schedule_fault, (EXAMPLE, NO_SCHEDULE)),
    (schedules.holdings, (EXAMPLE, SENT)),
    (schedules.holdings, (EXAMPLE, NO_SCHEDULE)),
    (schedules.tree, (EXAMPLE, SENT, "A", 0)),
    (schedules.time_slots, (EXAMPLE, SENT)),
    (formulas.normal_text, ("!(0&1)^2|10",)),
    (formula_tells, ("!(0&1)^2|10", [True, False])),
    (relay_tells, (EXAMPLE, PROTOCOL, "C", "ab")),
    (relay_tells, (EXAMPLE, [], "A", "")),
    (protocols.routed, (EXAMPLE, SENT)),
    (protocols.routed, (EXAMPLE, NO_SCHEDULE)),
    (injections.minimum_counts, (LINE,)),
    (injections.certificate, (LINE,)),
    (injections.deficient_set, (LINE, [0, 5, 5])),
    (injections.deficient_set, (LINE, [2, 2, 2])),
    (injections.reduced_counts, (LINE, [2, 2, 2])),
    (injections.reduced_counts, (LINE, [0, 5, 5])),
    (injections.lower_bound, (LINE, ["A", "BC"])),
    (injections.injections, (LINE, [2, 2, 2])),
    (injections.injections, (LINE, [0, 5, 5])),
    (failures.tolerance, (SPARE,)),
    (failures.needed_links, (EXAMPLE,)),
    (failures.smallest_failure, (SPARE,)),
    (failures.schedule_without, (SPARE, [3, 0, 3])),
    (failures.schedule_without, (SPARE, [2, 1])),
    (adaptive_tells, (SPARE, [True, False, True])),
    (adaptive_tells, (EXAMPLE, [False])),
    (changes.is_feasible, (EXAMPLE,)),
    (changes.reduced, (SPARE,)),
    (changes.reduced, (LINE,)),
    (changes.with_link, (LINE, "CA")),
    (changes.helping_links, (SPARE,)),
    (changes.with_message, (SPARE, "B", "a")),
    (changes.removable_messages, (SPARE,)),
    (changes.cheapest, (SPARE, [5, 1, 1, 4, 2])),
    (changes.cheapest, (LINE, [1, 1])),
    (changes.bound, (SPARE, [5, 1, 1, 4, 2], [["B", 2], ("C", 1)])),
    (targets.first_set, (LINE, "BC")),
    (targets.is_feasible_for, (LINE, "BC")),
    (targets.feasible_alone, (LINE, "ABC")),
    (targets.critical_links, (EXAMPLE, "BC")),
    (targets.delivery, (EXAMPLE, "BC", "C")),
    (targets.is_complete_for, (EXAMPLE, "BC", SENT)),
    (session_tells, (EXAMPLE, EVENTS, "B", "ab")),
    (session_tells, (EXAMPLE, [], "A", "")),
    (replayed_tells, (EXAMPLE, EVENTS)),
)

# Functions that return an object, which is asked by one of those above.
ASKED = (sessions.replayed,)

WRONG_CALLS = (
    (spans.assignments, (3, ["ab", "ba", "c"], [True, False, True])),
    (spans.combination, (["ab"], "ba")),
    (steps.ranks, (EXAMPLE, [[0, "a"], [0, "b"]])),
    (steps.can_swap, (EXAMPLE, [[2, "a"], [0, "a"]], 0)),
    (steps.earliest, (EXAMPLE, [[0, "a"]], "B", "ba")),
    (schedules.is_complete, (EXAMPLE, [[0, "A", 0], [9, "A", 0]])),
    (schedules.tree, (EXAMPLE, [[0, "A", 0]], "A", 9)),
    (formula_tells, ("0^1^2^3^4^5^6", [True])),
    (relay_tells, (EXAMPLE, [[0, "0"], [0, "1"]], "C", "ab")),
    (relay_tells, (EXAMPLE, PROTOCOL, "C", "ba")),
    (protocols.routed, (EXAMPLE, [[0, "A", 0], [9, "A", 0]])),
    (injections.reduced_counts, (LINE, [2, 2, -1])),
    (injections.lower_bound, (LINE, ["A", "AB", "C"])),
    (injections.injections, (LINE, [2, 2])),
    (failures.schedule_without, (SPARE, [3, 9, 0])),
    (adaptive_tells, (SPARE, [False] * 9)),
    (changes.cheapest, (SPARE, [5, 1, 1, 4, -2])),
    (changes.bound, (SPARE, [5, 1, 1, 4, 2], [["B", 2], ["A", 1]])),
    (targets.is_complete_for, (EXAMPLE, "BC", [[0, "A", 0], [9, "A", 0]])),
    (session_tells, (EXAMPLE, EVENTS + [["lost", 3]], "B", "ab")),
    (replayed_tells, (EXAMPLE, EVENTS + [["lost", 3]])),
)

LONGEST = 5

# Many messages, and as many links as there can be, so that much can come next.
MANY_LINKS = ("6: a, b, c, d | e, f, ab, cd | abc, def, ace, bdf | a, c, e, ace | b, d, f, bdf | abcdef, ab, cd, ef ;"
              " AB, BA, BC, CB, CD, DC, DE, ED, EF, FE, FA, AF, AB, BA, CD, DC")


def as_told(value):
    """What an argument tells, so that it can be compared later."""
    return facts(value) if hasattr(value, "links") else copy.deepcopy(value)


def within(value):
    """A value and all that stands within it."""
    found = [value]
    if isinstance(value, (tuple, list)):
        for part in value:
            found.extend(within(part))
    return found


class Answers(unittest.TestCase):
    def test_every_function_is_called_here(self):
        called = {function for function, _ in CALLS} | set(ASKED)
        for module in MODULES:
            for name, value in vars(module).items():
                is_own = getattr(value, "__module__", "") == module.__name__ and not isinstance(value, type)
                if is_own and not name.startswith("_") and name not in HELPERS:
                    self.assertIn(value, called, name)

    def test_no_function_changes_its_arguments(self):
        for function, arguments in CALLS:
            before = [as_told(value) for value in arguments]
            function(*arguments)
            with self.subTest(function=function.__name__):
                self.assertEqual([as_told(value) for value in arguments], before)

    def test_nor_does_a_call_that_raises_an_error(self):
        for function, arguments in WRONG_CALLS:
            before = [as_told(value) for value in arguments]
            self.assertRaises(ValueError, function, *arguments)
            with self.subTest(function=function.__name__):
                self.assertEqual([as_told(value) for value in arguments], before)

    def test_what_is_returned_are_tuples_also_within(self):
        for function, arguments in CALLS:
            with self.subTest(function=function.__name__):
                for value in within(function(*arguments)):
                    self.assertIn(type(value), (tuple, str, int, bool, type(None)))

    def test_the_same_call_is_answered_alike_again(self):
        for function, arguments in CALLS:
            with self.subTest(function=function.__name__):
                self.assertEqual(function(*arguments), function(*arguments))

    def test_later_changes_of_steps_change_nothing(self):
        told = [[0, "ab"], [1, "a"]]
        answer = steps.reduced(EXAMPLE, told)
        told[0][1] = "b"
        told.clear()
        self.assertEqual(answer, ((0, "ab"), (1, "a")))


class Speed(unittest.TestCase):
    """The greatest inputs that the document allows are answered within a few seconds."""

    def quickly(self, function, *arguments):
        start = time.monotonic()
        answer = function(*arguments)
        with self.subTest(function=function.__name__):
            self.assertLess(time.monotonic() - start, LONGEST)
        return answer

    def test_spans(self):
        chance = random.Random(51)
        every = reference.parities("abcdefgh")
        for messages in (every, every * 8, chance.choices(every, k=2000), ["abcdefgh"] * 2000,
                         list("abcdefgh") * 250):
            total = self.quickly(spans.message_rank, messages)
            told = spans.odd_ones(messages, "bdh")
            self.assertEqual(len(self.quickly(spans.basis, messages)), total)
            self.quickly(spans.is_derived, messages, "aceg")
            self.quickly(spans.combination, messages, "abcdefgh")
            self.quickly(spans.combination, messages, "aceg")
            self.quickly(spans.separating, 8, messages, "aceg")
            self.quickly(spans.redundant, messages)
            self.assertIs(self.quickly(spans.is_equivalent, messages, messages[::-1]), True)
            self.assertEqual(self.quickly(spans.assignments, 8, messages, told)[0], 1 << (8 - total))

    def test_steps(self):
        for text in GREATEST:
            network = read_network(text)
            told = tuple((link, network.messages(sender)[0]) for link, (sender, _) in enumerate(network.links))
            self.assertEqual(len(told), 16)
            self.assertIsNone(self.quickly(steps.fault, network, told))
            for function in (steps.ranks, steps.informed, steps.idle_steps, steps.reduced):
                self.quickly(function, network, told)
            self.quickly(steps.known, network, told, "F")
            self.quickly(steps.earliest, network, told, "F", "abcdef")
            self.quickly(steps.carried, network, told, "abcdefgh")
            self.quickly(steps.can_swap, network, told, 14)

    def test_node_sets(self):
        for text in GREATEST:
            network = read_network(text)
            for function in (node_sets.tight_sets, node_sets.deficient_sets, node_sets.first_deficient):
                self.quickly(function, network)
            self.quickly(node_sets.node_set, network, "ABCDEF")
            if node_sets.first_deficient(network) is None:
                self.quickly(node_sets.around, network, "F")
                self.quickly(node_sets.without, network, "A", "F")
                self.quickly(node_sets.can_carry, network, 15)

    def test_schedules(self):
        lengths = []
        for text in GREATEST:
            network = read_network(text)
            schedule = self.quickly(schedules.first_schedule, network)
            if schedule is not None:
                lengths.append(len(schedule))
            told = schedule or ()
            self.quickly(schedules.is_complete, network, told)
            self.quickly(schedules.next_transmissions, network, told)
            self.quickly(schedules.next_transmissions, network, told[:8])
            self.quickly(schedules.schedule_fault, network, told)
            self.quickly(schedules.holdings, network, told)
            self.quickly(schedules.tree, network, told, "A", 0)
            self.quickly(schedules.time_slots, network, told)
        self.assertEqual(max(lengths), 16)

    def test_formulas(self):
        for text in ("0|1|2|3|4|5", "!(" * 19 + "0|1" + ")" * 19, "!" * 59 + "0", "&".join(["99"] * 20),
                     "(0|1)&(2|3)&(4|5)|(0|2)&(1|3)|!(4|5)&!(0|1)|!(2&3&4)"):
            formula = Formula(text)
            self.quickly(formula.normal)
            self.quickly(formula.value, (True,) * 100)
        for wrong in ("(" * 60, "!" * 60, "0&" * 30, "x" * 1000000):
            self.quickly(self.assertRaises, ValueError, Formula, wrong)

    def test_protocols(self):
        for text in GREATEST:
            network = read_network(text)
            told = [(link, "(0|1)&(2|3)^!(1&2)|!(0^1^2^3)&(!0|!1|!2)^(3&2&1&0|1^2)") for link in range(16)]
            relay = self.quickly(Relay, network, told)
            self.assertEqual(len(self.quickly(relay.outputs, "abcdef")), 16)
            self.quickly(relay.decoders)
            for nodes in ("A", "BDF", "ABCDEF"):
                self.quickly(relay.confused, nodes)
            self.quickly(relay.observations, "F", "ace")
            self.quickly(protocols.routed, network, schedules.first_schedule(network) or ())

    def test_injections(self):
        for text in GREATEST + ("6: a, b, c, d | e | f | | | ;",):
            network = read_network(text)
            counts = self.quickly(injections.minimum_counts, network)
            self.quickly(injections.certificate, network)
            for told in (counts, (6,) * 6, (10 ** 100,) * 6):
                self.quickly(injections.deficient_set, network, told)
                self.quickly(injections.reduced_counts, network, told)
                self.quickly(injections.injections, network, told)
            self.quickly(injections.lower_bound, network, tuple("ABCDEF"))

    def test_failures(self):
        for text in GREATEST + (MANY_LINKS,):
            network = read_network(text)
            if node_sets.first_deficient(network) is None:
                for function in (failures.tolerance, failures.needed_links, failures.smallest_failure):
                    self.quickly(function, network)
            self.quickly(failures.schedule_without, network, (15, 3, 3))
            self.quickly(failures.schedule_without, network, ())
            for told in (True, False):
                schedule = self.quickly(AdaptiveSchedule, network)
                while schedule.choice() is not None:
                    self.quickly(schedule.tell, told)
                self.quickly(schedule.deficient)

    def test_changes(self):
        for text in GREATEST + (MANY_LINKS,):
            network = read_network(text)
            for function in (changes.is_feasible, changes.reduced, changes.helping_links, changes.removable_messages):
                self.quickly(function, network)
            self.quickly(changes.with_link, network, "FE")
            self.quickly(changes.with_message, network, "F", "ace")
            for costs in ((0,) * 16, tuple(range(16)), tuple(range(16, 0, -1)), (10 ** 100,) * 16):
                self.quickly(changes.cheapest, network, costs)
                weights = tuple((nodes, 10 ** 50) for nodes in reference.node_sets("ABCDEF"))
                self.quickly(changes.bound, network, costs, weights)

    def test_the_cheapest_of_as_many_sets_of_links_as_there_can_be(self):
        # Of 16 links 8 are needed, and sets of links that come later are cheaper.
        network = read_network("4: a, b, c, d | | ;" + ",".join([" AB"] * 8 + [" AC"] * 8))
        cost, links = self.quickly(changes.cheapest, network, tuple(range(16, 0, -1)))
        self.assertEqual((cost, links), (12 + 11 + 10 + 9 + 4 + 3 + 2 + 1, (4, 5, 6, 7, 12, 13, 14, 15)))

    def test_targets(self):
        for text in GREATEST + (MANY_LINKS,):
            network = read_network(text)
            for nodes in ("A", "F", "BDF", "ABCDEF"):
                for function in (targets.first_set, targets.is_feasible_for, targets.feasible_alone,
                                 targets.critical_links):
                    self.quickly(function, network, nodes)
                told = self.quickly(targets.delivery, network, nodes, nodes[-1])
                self.quickly(targets.is_complete_for, network, nodes, told or ())

    def test_sessions(self):
        for text in GREATEST + (MANY_LINKS,):
            network = read_network(text)
            events = [("closed" if number % 2 == 0 else "opened", number % 32 // 2) for number in range(60)]
            session = self.quickly(sessions.replayed, network, events)
            for function in (session.remaining, session.next_transmission, session.first_deficient, session.network,
                             session.links, session.journal):
                self.quickly(function)
            self.quickly(session.can_lose, 15)
            self.quickly(session.knows, "F", "abcdef")
            start = time.monotonic()
            while session.undo():
                session.holdings("F")
            while session.next_transmission():
                session.record(("sent",) + session.next_transmission())
            self.assertLess(time.monotonic() - start, LONGEST)

    def test_all_orders_of_the_links_of_a_network(self):
        network = read_network(FEASIBLE[6])
        start = time.monotonic()
        for links in itertools.permutations(network.links):
            other = type(network)(network.variables, network.nodes, links)
            self.assertEqual(len(schedules.first_schedule(other)), 4)
        self.assertLess(time.monotonic() - start, LONGEST)

    def test_networks_with_a_deficient_set(self):
        for text in DEFICIENT:
            self.assertIsNone(self.quickly(schedules.first_schedule, read_network(text)))


if __name__ == "__main__":
    unittest.main()
