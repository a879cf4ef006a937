import unittest

from threescribes.errors import BadSign, ScribeError, Unexpected


class TheErrors(unittest.TestCase):
    def test_are_below_one_class(self):
        self.assertTrue(issubclass(ScribeError, ValueError))
        for error in (BadSign, Unexpected):
            self.assertTrue(issubclass(error, ScribeError))
        self.assertFalse(issubclass(BadSign, Unexpected))
        self.assertFalse(issubclass(Unexpected, BadSign))

    def test_have_their_place(self):
        for error in (BadSign, Unexpected):
            for place in (0, 1, 60):
                self.assertEqual(error(place).place, place)
                self.assertEqual(error(place=place).place, place)

    def test_places_are_those_of_the_objects(self):
        one, other = BadSign(1), BadSign(2)
        self.assertEqual((one.place, other.place), (1, 2))
        self.assertFalse(hasattr(BadSign, "place"))

    def test_have_words(self):
        self.assertIn("7", str(BadSign(7)))
        self.assertIn("7", str(Unexpected(7)))
