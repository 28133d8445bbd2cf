"""The error classes of the package."""

import unittest

from allknow import (changes, failures, formulas, injections, networks, node_sets, protocols, schedules, sessions, spans,
                     steps, targets, texts)
from allknow.errors import KnowError
from allknow.networks import BadNetwork, NoLink, NoMessage, NoNode, NoSet
from allknow.node_sets import NotFeasible
from allknow.spans import BadParity
from allknow.steps import Fault
from allknow.texts import BadOrder, BadText, TooLong


KINDS = (BadNetwork, NoNode, NoSet, NoLink, NoMessage, BadText, TooLong, BadOrder, BadParity, Fault, NotFeasible,
         formulas.BadFormula, formulas.TooLong, formulas.TooManyInputs, protocols.BadStep, injections.BadCounts,
         injections.NotDisjoint, failures.NothingSent, changes.BadCosts, changes.BadWeights, targets.NoTarget,
         sessions.BadEvent, sessions.Rejected)


class ErrorClasses(unittest.TestCase):
    def test_the_base_is_a_value_error(self):
        self.assertTrue(issubclass(KnowError, ValueError))

    def test_all_are_under_know_error(self):
        for kind in KINDS:
            with self.subTest(kind=kind.__name__):
                self.assertTrue(issubclass(kind, KnowError))
                self.assertTrue(issubclass(kind, ValueError))
                self.assertIsNot(kind, KnowError)

    def test_none_is_under_another_one(self):
        for kind in KINDS:
            for other in KINDS:
                if kind is not other:
                    with self.subTest(kind=kind.__name__, other=other.__name__):
                        self.assertFalse(issubclass(kind, other))

    def test_bad_network_has_its_attributes(self):
        error = BadNetwork("nodes", 2, "message")
        self.assertEqual((error.part, error.number, error.reason), ("nodes", 2, "message"))

    def test_bad_network_takes_its_attributes_by_name(self):
        error = BadNetwork(part="links", number=None, reason="count")
        self.assertEqual((error.part, error.number, error.reason), ("links", None, "count"))

    def test_bad_text_has_its_position(self):
        self.assertEqual(BadText(7).position, 7)
        self.assertEqual(BadText(position=0).position, 0)

    def test_bad_parity_has_its_text(self):
        self.assertEqual(BadParity("ba").text, "ba")
        self.assertEqual(BadParity(text="").text, "")

    def test_fault_has_its_number(self):
        self.assertEqual(Fault(3).number, 3)
        self.assertEqual(Fault(number=0).number, 0)

    def test_bad_formula_has_its_position(self):
        self.assertEqual(formulas.BadFormula(5).position, 5)
        self.assertEqual(formulas.BadFormula(position=0).position, 0)

    def test_bad_step_has_its_attributes(self):
        error = protocols.BadStep(2, "used")
        self.assertEqual((error.number, error.reason), (2, "used"))
        error = protocols.BadStep(number=0, reason="link")
        self.assertEqual((error.number, error.reason), (0, "link"))

    def test_bad_weights_and_rejected_have_their_number(self):
        for kind in (changes.BadWeights, sessions.Rejected):
            self.assertEqual(kind(3).number, 3)
            self.assertEqual(kind(number=0).number, 0)

    def test_bad_event_has_its_reason(self):
        self.assertEqual(sessions.BadEvent("word").reason, "word")
        self.assertEqual(sessions.BadEvent(reason="many").reason, "many")

    def test_no_error_class_is_left_out_here(self):
        for module in (networks, texts, spans, steps, node_sets, schedules, formulas, protocols, injections, failures,
                       changes, targets, sessions):
            for value in vars(module).values():
                if isinstance(value, type) and issubclass(value, Exception) and value.__module__ == module.__name__:
                    self.assertIn(value, KINDS)

    def test_the_others_can_be_raised_without_anything(self):
        for kind in (KnowError, NoNode, NoSet, NoLink, NoMessage, TooLong, BadOrder, NotFeasible, formulas.TooLong,
                     formulas.TooManyInputs, injections.BadCounts, injections.NotDisjoint, failures.NothingSent,
                     changes.BadCosts, targets.NoTarget):
            with self.subTest(kind=kind.__name__):
                with self.assertRaises(kind):
                    raise kind()


if __name__ == "__main__":
    unittest.main()
