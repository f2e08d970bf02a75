"""[1.3] Stuffed bits."""

import itertools
import unittest

from bitbus.frames import bits_of, stuffed
from tests.reference import list_of, some_frames, stuffed_text, text_of


def every_row(most):
    for length in range(most + 1):
        for bits in itertools.product((0, 1), repeat=length):
            yield list(bits)


class Stuffed(unittest.TestCase):
    def check_pairs(self, pairs):
        for plain, wire in pairs:
            self.assertEqual(text_of(stuffed(list_of(plain))), wire, plain)

    def test_fewer_than_five_like_bits_stay(self):
        self.check_pairs((("", ""), ("0", "0"), ("1", "1"), ("0000", "0000"), ("1111", "1111")))
        self.check_pairs((("0000111100001111", "0000111100001111"), ("0101010101", "0101010101")))

    def test_behind_five_like_bits_the_opposite(self):
        self.check_pairs((("0000001", "00000101"), ("1111110", "11111010")))
        self.check_pairs((("1000001", "10000011"), ("0111110", "01111100")))

    def test_behind_the_last_ones_too(self):
        self.check_pairs((("00000", "000001"), ("11111", "111110"), ("100000", "1000001")))

    def test_six_like_bits_and_more(self):
        self.check_pairs((("000000", "0000010"), ("111111", "1111101")))
        self.check_pairs((("0000000000", "000001000001"), ("1111111111", "111110111110")))

    def test_bits_put_in_count_for_the_next_five(self):
        self.check_pairs((("000001111", "00000111110"), ("111110000", "11111000001")))
        self.check_pairs((("0000011110000", "0000011111000001"), ("1111100001111", "1111100000111110")))
        self.check_pairs((("00000111", "000001111"), ("000000000", "0000010000")))

    def test_no_six_like_bits_side_by_side(self):
        for bits in every_row(12):
            wire = text_of(stuffed(bits))
            self.assertNotIn("000000", wire)
            self.assertNotIn("111111", wire)

    def test_every_row_like_another_way(self):
        for bits in every_row(13):
            self.assertEqual(text_of(stuffed(bits)), stuffed_text(text_of(bits)))

    def test_frames_like_another_way(self):
        for name, row in some_frames():
            bits = bits_of(name, row)
            self.assertEqual(text_of(stuffed(bits)), stuffed_text(text_of(bits)))

    def test_more_bits_than_a_frame_has(self):
        self.assertEqual(stuffed([0] * 1000), [0, 0, 0, 0, 0, 1] * 200)
        self.assertEqual(stuffed([1] * 999), [1, 1, 1, 1, 1, 0] * 199 + [1, 1, 1, 1])

    def test_what_was_handed_in_stays_and_what_was_told_is_new(self):
        for bits in every_row(8):
            before = list(bits)
            wire = stuffed(bits)
            told = list(wire)
            self.assertIs(type(wire), list)
            self.assertIsNot(wire, bits)
            self.assertEqual(bits, before)
            wire.append(7)
            wire[0] = 8
            self.assertEqual(bits, before)
            self.assertEqual(stuffed(bits), told)


if __name__ == "__main__":
    unittest.main()
