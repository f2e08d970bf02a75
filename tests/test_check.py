"""[1.2] The check."""

import random
import unittest

from bitbus.frames import check_of
from tests.reference import check_text, list_of, text_of


def some_bits():
    source = random.Random(15)
    rows = []
    for length in range(95):
        for ones in (0, 5, 50, 95, 100):
            rows.append([1 if source.randrange(100) < ones else 0 for k in range(length)])
    return rows


class Check(unittest.TestCase):
    def test_by_hand(self):
        # Behind a single 1 stands 17817 itself; with each 0 behind it, that is moved, and turned
        # over again where a 1 falls out.
        self.assertEqual(text_of(check_of([])), "000000000000000")
        self.assertEqual(text_of(check_of([0])), "000000000000000")
        self.assertEqual(text_of(check_of([1])), "100010110011001")
        self.assertEqual(text_of(check_of([0, 1])), "100010110011001")
        self.assertEqual(text_of(check_of([1, 0])), "100111010101011")
        self.assertEqual(text_of(check_of([1, 1])), "000101100110010")
        self.assertEqual(text_of(check_of([1, 0, 0])), "101100011001111")
        self.assertEqual(text_of(check_of([0] * 90)), "000000000000000")

    def test_the_value_that_is_printed_for_this_check(self):
        # The catalogues of such checks tell it for the nine figures in eight bits each: 0x059e.
        bits = list_of("".join(format(ord(sign), "08b") for sign in "123456789"))
        self.assertEqual(int(text_of(check_of(bits)), 2), 0x059E)

    def test_like_the_long_division(self):
        for bits in some_bits():
            self.assertEqual(text_of(check_of(bits)), check_text(text_of(bits)), bits)

    def test_one_bit_among_noughts_and_one_nought_among_ones(self):
        for length in (1, 15, 16, 90):
            for at in range(length):
                for most in (0, 1):
                    bits = [most] * length
                    bits[at] = 1 - most
                    self.assertEqual(text_of(check_of(bits)), check_text(text_of(bits)), bits)

    def test_with_the_check_behind_it_is_all_noughts(self):
        for bits in some_bits():
            self.assertEqual(check_of(bits + check_of(bits)), [0] * 15, bits)

    def test_a_list_of_fifteen_bits(self):
        for bits in some_bits():
            check = check_of(bits)
            self.assertIs(type(check), list)
            self.assertEqual(len(check), 15)
            for bit in check:
                self.assertIs(type(bit), int)
                self.assertIn(bit, (0, 1))

    def test_what_was_handed_in_stays_and_what_was_told_is_new(self):
        for bits in some_bits():
            before = list(bits)
            check = check_of(bits)
            self.assertEqual(bits, before)
            told = list(check)
            check[0] = 7
            check.append(9)
            self.assertEqual(check_of(bits), told)
            self.assertEqual(bits, before)


if __name__ == "__main__":
    unittest.main()
