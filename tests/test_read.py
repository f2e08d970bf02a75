"""[1.3] What stuffed bits are read to, and the wrong place of other bits."""

import itertools
import random
import unittest

from bitbus.errors import BadBits, BadFrame, NoNode
from bitbus.frames import bits_of, frame_of, stuffed
from tests.reference import frame_text, list_of, some_frames, stuffed_text, text_of, wrong_place


def wire_text(name, row):
    return stuffed_text(frame_text(name, row))


def turned(text, at):
    return text[:at] + ("1" if text[at] == "0" else "0") + text[at + 1:]


class Read(unittest.TestCase):
    def check_wrong(self, text, place):
        with self.assertRaises(BadBits, msg=text) as caught:
            frame_of(list_of(text))
        self.assertEqual(caught.exception.place, place, text)
        self.assertIs(type(caught.exception.place), int)
        self.assertNotIsInstance(caught.exception, (BadFrame, NoNode))

    def frames_that_end_with_a_bit_put_in(self):
        texts = [(name, wire_text(name, [])) for name in range(2048)]
        return [(name, text) for name, text in texts if text[-6:] in ("000001", "111110")]

    def test_by_hand(self):
        # The frame of name 0 and no byte: 31 noughts, and a 1 behind each five.
        self.assertEqual(frame_of([0, 0, 0, 0, 0, 1] * 6 + [0]), (0, []))

    def test_a_frame_is_read_again(self):
        for name, row in some_frames():
            told = frame_of(list_of(wire_text(name, row)))
            self.assertEqual(told, (name, row))
            self.assertIs(type(told), tuple)
            self.assertIs(type(told[0]), int)
            self.assertIs(type(told[1]), list)
            self.assertEqual(frame_of(stuffed(bits_of(name, row))), (name, row))

    def test_every_name_is_read_again(self):
        for name in range(2048):
            self.assertEqual(frame_of(stuffed(bits_of(name, []))), (name, []))

    def test_every_byte_is_read_again(self):
        for byte in range(256):
            self.assertEqual(frame_of(stuffed(bits_of(1000, [byte, 255 - byte]))), (1000, [byte, 255 - byte]))

    def test_no_bits(self):
        self.check_wrong("", 0)

    def test_first_bit_is_not_a_nought(self):
        self.check_wrong("1", 0)
        self.check_wrong("10", 0)
        self.check_wrong("1" * 50, 0)
        self.check_wrong(turned(wire_text(77, [1, 2, 3]), 0), 0)

    def test_bits_end_too_early(self):
        for name, row in some_frames():
            text = wire_text(name, row)
            for length in range(len(text)):
                self.check_wrong(text[:length], length)

    def test_the_sixth_like_bit(self):
        self.check_wrong("000000", 5)
        self.check_wrong("0000000", 5)
        self.check_wrong("0000000101", 5)
        self.check_wrong("0111111", 6)
        self.check_wrong("0101111110", 8)
        self.check_wrong("0" * 100, 5)
        self.check_wrong("0" + "1" * 100, 6)
        # The one that was put in counts for these six.
        self.check_wrong("00000111111", 10)
        self.check_wrong("011111000000", 11)

    def test_a_count_that_no_frame_has(self):
        # Behind the name 1365, without five like bits, the count stands at 12 to 15.
        head = "0" "10101010101"
        self.check_wrong(head + "1001", 15)
        self.check_wrong(head + "1010", 14)
        self.check_wrong(head + "1011", 14)
        for count in ("1100", "1101", "1110", "1111"):
            self.check_wrong(head + count, 13)
        # It is wrong as soon as no count goes on so, not only where all four are there.
        self.check_wrong(head + "11", 13)
        self.check_wrong(head + "101", 14)
        self.check_wrong(head + "1001" + "0101" * 30, 15)

    def test_a_count_that_no_frame_has_behind_bits_put_in(self):
        # Behind the name 0 two ones are put in ahead of the count, which stands at 14 on.
        self.check_wrong("000001" "000001" "00" "1001", 17)
        self.check_wrong("000001" "000001" "00" "11", 15)
        # Behind the name 31 another one is put in right ahead of the count.
        self.check_wrong("000001" "00" "11111" "0" "1001", 17)
        self.check_wrong("000001" "00" "11111" "0" "11", 15)
        # The name ends in four ones: one is put in behind the count's first bit.
        self.check_wrong("0" "10101001111" "1" "1", 13)
        self.check_wrong("0" "10101001111" "1" "0" "1", 14)
        self.check_wrong("0" "10101001111" "1" "0" "001", 16)

    def test_counts_that_frames_have(self):
        head = "0" "10101010101"
        for many in range(9):
            text = head + format(many, "04b")
            self.check_wrong(text, len(text))

    def test_a_bit_of_the_check_that_differs(self):
        for name, row in ((1365, [170]), (819, []), (1234, [51, 204, 170, 85]), (1365, [170] * 8)):
            text = wire_text(name, row)
            # None is put in up to the check: it begins at 16 and eight for each byte.
            check_at = 16 + 8 * len(row)
            self.assertEqual(text[:check_at], frame_text(name, row)[:check_at])
            for at in range(check_at, len(text)):
                self.check_wrong(turned(text, at), at)
                self.check_wrong(turned(text, at)[:at + 1], at)

    def test_bits_behind_the_end(self):
        for name, row in some_frames():
            text = wire_text(name, row)
            for behind in ("0", "1", "00", "01", "10", "11", "1111111111", "0000000000", text):
                self.check_wrong(text + behind, len(text))

    def test_the_last_bit_put_in_is_wrong_or_missing(self):
        found = self.frames_that_end_with_a_bit_put_in()
        self.assertEqual({text[-6:] for name, text in found}, {"000001", "111110"})
        for name, text in found:
            self.assertEqual(frame_of(list_of(text)), (name, []))
            self.check_wrong(text[:-1], len(text) - 1)
            self.check_wrong(turned(text, len(text) - 1), len(text) - 1)
            self.check_wrong(turned(text, len(text) - 1) + "0", len(text) - 1)
            self.check_wrong(text + "1", len(text))

    def test_not_stuffed_bits_are_wrong_where_the_first_would_be_put_in(self):
        self.check_wrong(frame_text(0, []), 5)
        self.check_wrong(frame_text(2047, []), 6)

    def test_each_single_bit_turned_over(self):
        for name, row in some_frames()[::3]:
            text = wire_text(name, row)
            for at in range(len(text)):
                other = turned(text, at)
                self.check_wrong(other, wrong_place(other))

    def test_short_bits_like_another_way(self):
        for length in range(13):
            for signs in itertools.product("01", repeat=length):
                text = "".join(signs)
                self.check_wrong(text, wrong_place(text))

    def test_mixed_bits_like_another_way(self):
        source = random.Random(60)
        for k in range(3000):
            name = source.randrange(2048)
            row = [source.randrange(256) for j in range(source.randrange(9))]
            text = wire_text(name, row)
            at = source.randrange(len(text))
            other = text[:at] + "".join(source.choice("01") for j in range(source.randrange(40)))
            place = wrong_place(other)
            if other != text:
                self.check_wrong(other, place)

    def test_what_was_handed_in_stays_and_what_was_told_is_new(self):
        for name, row in some_frames():
            bits = list_of(wire_text(name, row))
            before = list(bits)
            told = frame_of(bits)
            self.assertEqual(bits, before)
            told[1].append(7)
            told[1][0] = 300
            self.assertEqual(frame_of(bits), (name, row))
            self.assertEqual(bits, before)

    def test_what_was_refused_stays(self):
        for text in ("", "1", "000000", "0101010101011001", wire_text(5, [6]) + "1"):
            bits = list_of(text)
            with self.assertRaises(BadBits):
                frame_of(bits)
            self.assertEqual(text_of(bits), text)


if __name__ == "__main__":
    unittest.main()
