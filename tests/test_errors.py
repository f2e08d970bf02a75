"""The interface's rows of bitbus/errors.py."""

import unittest

from bitbus.errors import BadBits, BadFrame, BusError, NoNode


class Errors(unittest.TestCase):
    def test_any_refusal_is_a_bus_error_and_a_value_error(self):
        self.assertEqual(BusError.__bases__, (ValueError,))
        for error in (BadFrame, NoNode, BadBits):
            self.assertTrue(issubclass(error, BusError), error)

    def test_none_of_the_three_stands_under_another(self):
        three = (BadFrame, NoNode, BadBits)
        for one in three:
            for other in three:
                self.assertEqual(issubclass(one, other), one == other, (one, other))

    def test_bad_bits_have_their_place_from_the_start(self):
        for place in (0, 1, 127, 999999999999999):
            self.assertEqual(BadBits(place).place, place)
        with self.assertRaises(BusError) as caught:
            raise BadBits(17)
        self.assertEqual(caught.exception.place, 17)


if __name__ == "__main__":
    unittest.main()
