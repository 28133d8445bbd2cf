"""The error classes of allknow.errors, allknow.networks and allknow.texts."""

import unittest

from allknow.errors import KnowError
from allknow.networks import BadNetwork, NoLink, NoMessage, NoNode, NoSet
from allknow.texts import BadOrder, BadText, TooLong


class ErrorClasses(unittest.TestCase):
    def test_the_base_is_a_value_error(self):
        self.assertTrue(issubclass(KnowError, ValueError))

    def test_all_are_under_know_error(self):
        kinds = (BadNetwork, NoNode, NoSet, NoLink, NoMessage, BadText, TooLong, BadOrder)
        for kind in kinds:
            with self.subTest(kind=kind.__name__):
                self.assertTrue(issubclass(kind, KnowError))
                self.assertIsNot(kind, KnowError)

    def test_none_is_under_another_one(self):
        kinds = (BadNetwork, NoNode, NoSet, NoLink, NoMessage, BadText, TooLong, BadOrder)
        for kind in kinds:
            for other in kinds:
                if kind is not other:
                    with self.subTest(kind=kind.__name__, other=other.__name__):
                        self.assertFalse(issubclass(kind, other))

    def test_bad_network_has_its_attributes(self):
        error = BadNetwork("nodes", 2, "message")
        self.assertEqual((error.part, error.number, error.reason), ("nodes", 2, "message"))

    def test_bad_network_takes_its_attributes_by_name(self):
        error = BadNetwork(part="links", number=None, reason="count")
        self.assertEqual((error.part, error.number, error.reason), ("links", None, "count"))

    def test_bad_text_has_its_position(self):
        self.assertEqual(BadText(7).position, 7)
        self.assertEqual(BadText(position=0).position, 0)

    def test_the_others_can_be_raised_without_anything(self):
        for kind in (KnowError, NoNode, NoSet, NoLink, NoMessage, TooLong, BadOrder):
            with self.subTest(kind=kind.__name__):
                with self.assertRaises(kind):
                    raise kind()


if __name__ == "__main__":
    unittest.main()
