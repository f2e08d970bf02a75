"""[2.4] Faults: each kind by itself, crying, being dazed, and rest behind it."""

import unittest

from bitbus.buses import Bus, run, send, step
from tests.other_bus import what_is
from tests.reference import some_frames, text_of
from tests.wires import PLAIN, PLAIN_TEXT, bus_with, fault_counts, flips_at, modes, stuffed_bits, watch, whole


def tale_of(before, fault, rest):
    """The modes of one that is in a frame up to its fault, cries, is dazed, and rests behind the bit at rest."""
    return before + "F" * (fault - len(before)) + "C" * 6 + "D" * (rest - fault - 6) + "RRR" "."


class EachKind(unittest.TestCase):
    def check(self, place, faults, many=2, frame=PLAIN):
        """With the bit at place turned, node 0 sends and has its fault at the first of faults, the others theirs."""
        bus = bus_with(many, [(0, frame)])
        # The last one to cry is at it for six bits; eight 1 follow, and three.
        last = max(faults)
        rest = last + 6 + 8
        bits, tales = watch(bus, many, flips_at([place], rest + 4))
        before = "." if place == 0 else ""
        self.assertEqual(tales[0], tale_of("", faults[0], rest), place)
        self.assertEqual(tales[1:], [tale_of(before, faults[1], rest)] * (many - 1), place)
        self.assertEqual(bits[:place], text_of(whole(frame))[:place])
        self.assertEqual(bits[faults[0] + 1:], "0" * (last + 6 - faults[0]) + "1" * 11, place)
        self.assertEqual(fault_counts(bus, many), [1] * many)
        self.assertEqual([bus.heard(k) for k in range(many)], [[]] * many)
        self.assertEqual(bus.waits(0), [frame])
        # And all is said again.
        self.assertEqual(run(bus, [0] * len(whole(frame))), whole(frame))
        self.assertEqual([bus.heard(k) for k in range(1, many)], [[frame]] * (many - 1))
        self.assertEqual(bus.waits(0), [])
        self.assertEqual(fault_counts(bus, many), [1] * many)

    def check_all(self, place, faults):
        for many in (2, 3, 8):
            self.check(place, faults, many)

    def test_the_first_bit(self):
        # Nobody else has heard anything; then six noughts of the cry, the sixth of which no frame has.
        self.check_all(0, (0, 6))

    def test_a_0_of_the_name(self):
        # The others read the cry as bits of the frame: behind the turned 1 the sixth 0 is wrong.
        self.check_all(2, (2, 8))
        self.check_all(4, (4, 10))
        self.check_all(10, (10, 16))

    def test_a_1_of_the_name(self):
        # Who sends gives way; all hear six 1.
        bus = bus_with(3, [(0, PLAIN)])
        bits, tales = watch(bus, 3, flips_at([1], 25))
        self.assertEqual(bits, "00" "111111" "000000" "11111111" "111")
        self.assertEqual(tales, ["F" * 7 + "C" * 6 + "D" * 8 + "RRR" "."] * 3)
        self.assertEqual(fault_counts(bus, 3), [1, 1, 1])
        self.assertEqual(text_of(run(bus, [0] * 49)), PLAIN_TEXT)

    def test_the_count(self):
        # A count of eight, four or two, then six noughts.
        self.check_all(12, (12, 18))
        self.check_all(13, (13, 19))
        self.check_all(14, (14, 20))
        # No bytes any more: the four noughts are the count, and the check of the frame without bytes begins with a
        # 1 at 16.
        self.assertEqual(stuffed_bits((1365, []))[12:17], [0, 0, 0, 0, 1])
        self.check_all(15, (15, 16))

    def test_a_count_that_no_frame_has(self):
        # Eight bytes: the count is 1000 at 12 to 15; turned, each of its noughts is wrong at once.
        frame = (1365, [90] * 8)
        self.assertEqual(text_of(stuffed_bits(frame))[12:24], "1000" "01011010")
        for place in (13, 14, 15):
            self.check(place, (place, place), 3, frame)

    def test_a_byte(self):
        # The byte is 01011010 at 16 to 23. Behind a 0 turned to 1 six noughts are read.
        self.check_all(16, (16, 22))
        self.check_all(18, (18, 24))
        # Behind a 1 turned to 0 the noughts are one too many sooner: with those that stand ahead of it.
        self.check_all(17, (17, 21))
        self.check_all(19, (19, 23))

    def test_the_check(self):
        # Each bit of it is known from what stands ahead of it: it is wrong at once, to all.
        for place in range(24, 39):
            self.check_all(place, (place, place))

    def test_a_1_put_in(self):
        # Name 0, no byte: a 1 behind each five noughts, within the name, the count and the check.
        for place in (5, 11, 17, 23, 29, 35):
            self.check(place, (place, place), 3, (0, []))

    def test_a_0_put_in(self):
        # Name 2047: a 0 behind the fifth and the tenth 1.
        for place in (6, 12):
            self.check(place, (place, place), 3, (2047, []))

    def test_a_bit_put_in_behind_the_last_ones(self):
        ends = set()
        for name in range(2048):
            bits = stuffed_bits((name, []))
            if len(set(bits[-6:-1])) == 1:
                ends.add(bits[-1])
                self.check(len(bits) - 1, (len(bits) - 1, len(bits) - 1), 3, (name, []))
        self.assertEqual(ends, {0, 1})

    def test_the_1_behind_the_stuffed_bits(self):
        self.check_all(39, (39, 39))

    def test_the_answer(self):
        # Only who sends misses it; its cry is the 0 that the others hear for the 1 behind the answer.
        self.check_all(40, (40, 41))

    def test_the_1_behind_the_answer(self):
        self.check_all(41, (41, 41))

    def test_each_of_the_seven(self):
        for place in range(42, 49):
            self.check_all(place, (place, place))

    def test_the_tail_of_other_frames(self):
        for frame in some_frames()[::7]:
            length = len(stuffed_bits(frame))
            self.check(length, (length, length), 3, frame)
            self.check(length + 1, (length + 1, length + 2), 3, frame)
            for place in range(length + 2, length + 10):
                self.check(place, (place, place), 3, frame)


class WhoSendsAlone(unittest.TestCase):
    def test_each_other_bit_than_was_put(self):
        # No other node is there whose bits could matter. At a 1 of the name it gives way instead.
        for place in range(39):
            bus = bus_with(1, [(0, PLAIN)])
            run(bus, flips_at([place], place))
            self.assertEqual((bus.mode(0), bus.faults(0)), ("frame" if place else "free", 0))
            step(bus, 1)
            gives_way = place in (1, 3, 5, 7, 9, 11)
            self.assertEqual((bus.mode(0), bus.faults(0)), ("frame", 0) if gives_way else ("cry", 1), place)

    def test_behind_the_stuffed_bits(self):
        # The answer is a turned bit at 40; each 1 behind it is turned by itself.
        for place in (39, 41, 42, 43, 44, 45, 46, 47, 48):
            bus = bus_with(1, [(0, PLAIN)])
            run(bus, flips_at([40], place))
            self.assertEqual((bus.mode(0), bus.faults(0)), ("frame", 0))
            step(bus, 1)
            self.assertEqual((bus.mode(0), bus.faults(0)), ("cry", 1), place)

    def test_no_answer(self):
        bus = bus_with(1, [(0, PLAIN)])
        run(bus, [0] * 40)
        self.assertEqual((bus.mode(0), bus.faults(0)), ("frame", 0))
        step(bus, 0)
        self.assertEqual((bus.mode(0), bus.faults(0)), ("cry", 1))


class WhoReadsAlone(unittest.TestCase):
    """Nobody sends: the bits that are read are turned ones, among the 1 that all put."""

    def feed(self, many, bits):
        bus = Bus(many)
        self.assertEqual(run(bus, [1 - bit for bit in bits]), bits)
        return bus

    def check_wrong_at(self, text, place):
        for many in (1, 3):
            bits = [int(sign) for sign in text]
            bus = self.feed(many, bits[:place])
            self.assertEqual((modes(bus, many), fault_counts(bus, many)), ("F" * many, [0] * many), text)
            self.assertEqual(step(bus, 1 - bits[place]), bits[place])
            self.assertEqual((modes(bus, many), fault_counts(bus, many)), ("C" * many, [1] * many), text)

    def test_six_like_bits(self):
        self.check_wrong_at("000000", 5)
        self.check_wrong_at("0111111", 6)
        self.check_wrong_at("00000111111", 10)
        self.check_wrong_at("011111000000", 11)

    def test_a_count_that_no_frame_has(self):
        self.check_wrong_at("0" "10101010101" "1001", 15)
        self.check_wrong_at("0" "10101010101" "101", 14)
        self.check_wrong_at("0" "10101010101" "11", 13)

    def test_each_bit_of_the_check(self):
        for frame in (PLAIN, (0, []), (2047, [255, 255]), (77, [1, 2, 3])):
            bits = stuffed_bits(frame)
            for place in range(1, len(bits)):
                other = text_of(bits[:place]) + str(1 - bits[place])
                if what_is(other) == "wrong":
                    self.check_wrong_at(other, place)

    def test_behind_the_stuffed_bits(self):
        bits = stuffed_bits(PLAIN)
        for many in (1, 3):
            for place in (39, 41, 42, 43, 44, 45, 46, 47, 48):
                bus = self.feed(many, bits)
                run(bus, [0] * (place - 39))
                self.assertEqual((modes(bus, many), fault_counts(bus, many)), ("F" * many, [0] * many))
                self.assertEqual(step(bus, 1), 0)
                self.assertEqual((modes(bus, many), fault_counts(bus, many)), ("C" * many, [1] * many))
                self.assertEqual([bus.heard(k) for k in range(many)], [[]] * many)

    def test_a_1_for_the_answer_is_no_fault_of_who_reads(self):
        for many in (1, 3):
            bus = self.feed(many, stuffed_bits(PLAIN))
            bits = run(bus, flips_at([1], 10))
            self.assertEqual(bits, [1] * 10)
            self.assertEqual((modes(bus, many), fault_counts(bus, many)), ("R" * many, [0] * many))
            self.assertEqual([bus.heard(k) for k in range(many)], [[PLAIN]] * many)


class CryAndDazed(unittest.TestCase):
    def crying(self):
        """Both have cried out with the bit at 24, the first of the check."""
        bus = bus_with(2, [(0, PLAIN)])
        run(bus, flips_at([24], 25))
        self.assertEqual(modes(bus, 2), "CC")
        return bus

    def test_it_cries_six_times_whatever_it_hears(self):
        for flips in range(64):
            bus = self.crying()
            turned = [flips >> k & 1 for k in range(6)]
            bits, tales = watch(bus, 2, turned + [0] * 11)
            self.assertEqual(bits, text_of(turned) + "1" * 11)
            self.assertEqual(tales, ["CCCCC" "DDDDDDDD" "RRR" "."] * 2)
            self.assertEqual(fault_counts(bus, 2), [1, 1])

    def test_what_is_heard_while_crying_is_none_of_the_eight(self):
        bus = self.crying()
        bits, tales = watch(bus, 2, [1] * 6 + [0] * 8)
        self.assertEqual(bits, "1" * 14)
        self.assertEqual(tales, ["CCCCC" "DDDDDDDD" "R"] * 2)

    def test_a_0_begins_the_eight_anew(self):
        for ones in range(8):
            bus = self.crying()
            run(bus, [0] * 6)
            bits, tales = watch(bus, 2, flips_at([ones], ones + 12))
            self.assertEqual(bits, "1" * ones + "0" + "1" * 11)
            self.assertEqual(tales, ["D" * (ones + 8) + "RRR" "."] * 2)
            self.assertEqual(fault_counts(bus, 2), [1, 1])

    def test_many_noughts_while_dazed(self):
        bus = self.crying()
        run(bus, [0] * 6)
        run(bus, ([0] * 7 + [1]) * 5 + [1] * 9)
        self.assertEqual(modes(bus, 2), "DD")
        bits, tales = watch(bus, 2, [0] * 11)
        self.assertEqual(tales, ["DDDDDDD" "RRR" "."] * 2)
        self.assertEqual(fault_counts(bus, 2), [1, 1])

    def test_a_0_at_rest_behind_a_fault_is_a_frame(self):
        for ones in range(3):
            bus = self.crying()
            run(bus, [0] * 14)
            self.assertEqual(modes(bus, 2), "RR")
            bits, tales = watch(bus, 2, flips_at([ones], ones + 7))
            self.assertEqual(tales, ["R" * ones + "FFFFFF" "C"] * 2)
            self.assertEqual(fault_counts(bus, 2), [2, 2])

    def test_one_is_dazed_while_another_cries(self):
        # Node 0 misses the answer, the others cry one bit behind it; its eight begin behind the last cry.
        bus = bus_with(3, [(0, PLAIN)])
        bits, tales = watch(bus, 3, flips_at([40], 59))
        self.assertEqual(bits[40:], "1" "0000000" "11111111" "111")
        self.assertEqual(tales[0][40:], "CCCCCC" "DDDDDDDDD" "RRR" ".")
        self.assertEqual(tales[1][40:], "F" "CCCCCC" "DDDDDDDD" "RRR" ".")
        self.assertEqual(tales[2], tales[1])

    def test_each_fault_is_counted_once(self):
        bus = bus_with(2, [(0, PLAIN)])
        for time in range(1, 5):
            run(bus, flips_at([48], 49 + 17))
            self.assertEqual(fault_counts(bus, 2), [time, time])
        self.assertEqual(text_of(run(bus, [0] * 49)), PLAIN_TEXT)
        self.assertEqual(bus.heard(1), [PLAIN])

    def test_behind_a_fault_a_lesser_one_goes_first(self):
        bus = self.crying()
        send(bus, 0, 1364, [7])
        run(bus, [0] * 17)
        self.assertEqual(run(bus, [0] * len(whole((1364, [7])))), whole((1364, [7])))
        self.assertEqual(bus.waits(0), [PLAIN])


if __name__ == "__main__":
    unittest.main()
