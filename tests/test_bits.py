"""[1.1] What a frame is, and its bits; [0.3] any whole number may be handed in."""

import unittest

from bitbus.errors import BadBits, BadFrame, NoNode
from bitbus.frames import bits_of
from tests.reference import frame_text, some_frames, text_of

NOT_NAMES = (2048, 2049, 4095, 4096, 65536, 999999999999999, -1, -2, -2047, -2048, -999999999999999)
NOT_BYTES = (256, 257, 511, 512, 65536, 999999999999999, -1, -2, -255, -256, -999999999999999)


class Bits(unittest.TestCase):
    def test_by_hand(self):
        self.assertEqual(text_of(bits_of(0, [])), "0" "00000000000" "0000" "000000000000000")
        self.assertEqual(text_of(bits_of(2047, []))[:16], "0" "11111111111" "0000")
        self.assertEqual(text_of(bits_of(1, [128]))[:24], "0" "00000000001" "0001" "10000000")
        self.assertEqual(text_of(bits_of(1024, [0, 1]))[:32], "0" "10000000000" "0010" "00000000" "00000001")
        self.assertEqual(text_of(bits_of(5, [255] * 8))[:80], "0" "00000000101" "1000" + "11111111" * 8)

    def test_the_check_by_hand(self):
        # Name 0 and one byte 0: the only 1 is the last of the count, with eight noughts behind.
        # 100010110011001 behind the 1; then, nought by nought, with a 1 falling out of all but
        # the fifth and the eighth: 100111010101011, 101100011001111, 111010000000111,
        # 010110110010111, 101101100101110, 111001111000101, 010001000010011, 100010000100110.
        self.assertEqual(text_of(bits_of(0, [0])), "0" "00000000000" "0001" "00000000" "100010000100110")

    def test_like_another_way(self):
        for name, row in some_frames():
            bits = bits_of(name, row)
            self.assertIs(type(bits), list)
            self.assertEqual(text_of(bits), frame_text(name, row), (name, row))
            self.assertEqual(len(bits), 31 + 8 * len(row))

    def test_ends_of_names_and_bytes(self):
        for name in (0, 1, 2046, 2047):
            for byte in (0, 1, 254, 255):
                for many in (0, 1, 7, 8):
                    row = [byte] * many
                    self.assertEqual(text_of(bits_of(name, row)), frame_text(name, row))

    def test_every_name(self):
        for name in range(2048):
            self.assertEqual(text_of(bits_of(name, [])), frame_text(name, []))

    def test_every_byte(self):
        for byte in range(256):
            self.assertEqual(text_of(bits_of(3, [byte])), frame_text(3, [byte]))

    def test_wrong_names(self):
        for name in NOT_NAMES:
            for row in ([], [0], [255] * 8):
                with self.assertRaises(BadFrame, msg=name):
                    bits_of(name, row)

    def test_wrong_bytes_at_each_place(self):
        for byte in NOT_BYTES:
            for many in (1, 2, 8):
                for at in range(many):
                    row = [17] * many
                    row[at] = byte
                    with self.assertRaises(BadFrame, msg=row):
                        bits_of(17, row)

    def test_too_many_bytes(self):
        for many in (9, 10, 15, 16, 17, 24, 100, 1000):
            for name in (0, 2047):
                with self.assertRaises(BadFrame, msg=many):
                    bits_of(name, [0] * many)

    def test_several_things_wrong_at_once(self):
        for name, row in ((-1, [256]), (2048, [0] * 9), (0, [-1] * 9), (-1, [-1] * 9)):
            with self.assertRaises(BadFrame) as caught:
                bits_of(name, row)
            self.assertNotIsInstance(caught.exception, (NoNode, BadBits))

    def test_what_was_handed_in_stays_and_what_was_told_is_new(self):
        for name, row in some_frames():
            before = list(row)
            bits = bits_of(name, row)
            told = list(bits)
            self.assertEqual(row, before)
            bits.reverse()
            bits.append(7)
            self.assertEqual(bits_of(name, row), told)
            self.assertEqual(row, before)

    def test_what_was_refused_stays(self):
        for name, row in ((0, [1, 256]), (0, list(range(9))), (2048, [1, 2])):
            before = list(row)
            with self.assertRaises(BadFrame):
                bits_of(name, row)
            self.assertEqual(row, before)

    def test_nothing_handed_in_is_kept(self):
        row = [1, 2, 3]
        bits = bits_of(9, row)
        told = list(bits)
        row[0] = 200
        row.append(4)
        self.assertEqual(bits, told)
        self.assertEqual(text_of(bits_of(9, [1, 2, 3])), text_of(told))


if __name__ == "__main__":
    unittest.main()
