"""[2.3] The bits of a frame on the wire, the answer, and giving way."""

import itertools
import unittest

from bitbus.buses import Bus, run, send, step
from tests.reference import some_frames, text_of
from tests.wires import PLAIN, bus_with, fault_counts, flips_at, modes, stuffed_bits, watch, whole


class OnTheWire(unittest.TestCase):
    def test_the_bits_of_a_frame_by_hand(self):
        # The name 0 and no byte: 31 noughts with a 1 behind each five, then 1, the answer, 1, seven times 1.
        bus = bus_with(2, [(0, (0, []))])
        self.assertEqual(text_of(run(bus, [0] * 47)), "000001" * 6 + "0" + "1" "0" "1" "1111111")
        self.assertEqual(bus.heard(1), [(0, [])])
        self.assertEqual(bus.waits(0), [])

    def test_the_bits_of_many_frames(self):
        for frame in some_frames():
            bus = bus_with(3, [(1, frame)])
            self.assertEqual(run(bus, [0] * len(whole(frame))), whole(frame))
            self.assertEqual([bus.heard(k) for k in range(3)], [[frame], [], [frame]])
            self.assertEqual(bus.waits(1), [])
            self.assertEqual(modes(bus, 3), "RRR")
            self.assertEqual(fault_counts(bus, 3), [0, 0, 0])

    def test_the_last_bit_put_in_is_on_the_wire(self):
        found = [name for name in range(2048) if text_of(stuffed_bits((name, [])))[-6:] in ("000001", "111110")]
        ends = {text_of(stuffed_bits((name, [])))[-6:] for name in found}
        self.assertEqual(ends, {"000001", "111110"})
        for name in found:
            bus = bus_with(2, [(0, (name, []))])
            self.assertEqual(run(bus, [0] * len(whole((name, [])))), whole((name, [])))
            self.assertEqual(bus.heard(1), [(name, [])])


class GivingWay(unittest.TestCase):
    def check_at_once(self, frames):
        """Frames that begin at once, one at each node: they go through by their names, one behind the other."""
        many = len(frames)
        bus = bus_with(many, list(enumerate(frames)))
        gone = []
        for node, frame in sorted(enumerate(frames), key=lambda pair: pair[1][0]):
            self.assertEqual(run(bus, [0] * len(whole(frame))), whole(frame), frames)
            gone.append((node, frame))
            for k in range(many):
                self.assertEqual(bus.heard(k), [sent for other, sent in gone if other != k])
                self.assertEqual(bus.waits(k), [] if (k, frames[k]) in gone else [frames[k]])
            self.assertEqual(run(bus, [0] * 3), [1] * 3)
        self.assertEqual(fault_counts(bus, many), [0] * many)
        self.assertEqual(modes(bus, many), "." * many)

    def test_two_that_differ_in_each_single_bit_of_the_name(self):
        for name in (0, 1, 31, 63, 64, 1365, 682, 992, 1984, 2016, 2047):
            for place in range(11):
                self.check_at_once([(name, [1]), (name ^ (1 << place), [2])])

    def test_names_with_bits_put_in(self):
        # Bits are put in behind the fourth and the ninth bit of the name 0, and behind the fifth and the tenth of
        # 2047: the names differ ahead of these, behind these, and where they stand.
        for names in ((0, 1, 2), (0, 64, 128), (0, 4, 8), (2047, 2046, 2045), (2047, 2015, 1983), (2047, 2044, 2040),
                      (0, 2047), (127, 128), (63, 64), (31, 32), (1023, 1024), (62, 63, 61), (1, 0, 2047)):
            for order in itertools.permutations(names):
                self.check_at_once([(name, [255, 0]) for name in order])

    def test_three_and_more(self):
        self.check_at_once([(1365, []), (1364, [1]), (1367, [2])])
        self.check_at_once([(5, [1] * 8), (4, []), (6, [0])])
        self.check_at_once([(2047, []), (1023, []), (511, [])])
        self.check_at_once([(name, [name % 256]) for name in (9, 700, 8, 2047, 0, 701, 1, 1024)])
        self.check_at_once([(name, [name % 256]) for name in (7, 6, 5, 4, 3, 2, 1, 0)])

    def test_bytes_and_their_count_do_not_matter(self):
        self.check_at_once([(700, []), (701, [0] * 8)])
        self.check_at_once([(700, [255] * 8), (701, [])])

    def test_the_bit_at_which_one_gives_way(self):
        # 1365 and 1364 differ in the last bit of the name. Up to it both speak; behind it node 0 puts 1 and answers.
        bus = bus_with(2, [(0, (1365, [0])), (1, (1364, [255]))])
        bits, tales = watch(bus, 2, [0] * len(whole((1364, [255]))))
        self.assertEqual(bits, text_of(whole((1364, [255]))))
        self.assertEqual(tales, ["F" * (len(bits) - 1) + "R"] * 2)
        self.assertEqual(bus.heard(0), [(1364, [255])])
        self.assertEqual(bus.waits(0), [(1365, [0])])

    def test_a_turned_bit_of_the_name_has_it_give_way_without_a_fault(self):
        # Each 1 of the name 1365 stands at an odd place. Turned, nobody speaks any more: all read, and the sixth 1
        # is wrong, or else the second 1 of the count, at 13.
        for place, wrong in ((1, 7), (3, 9), (5, 11), (7, 13), (9, 13), (11, 13)):
            for many in (1, 2, 3):
                bus = bus_with(many, [(0, PLAIN)])
                bits, tales = watch(bus, many, flips_at([place], wrong + 18))
                self.assertEqual(bits[place:], "0" + "1" * (wrong - place) + "000000" "11111111" "111")
                self.assertEqual(tales, ["F" * wrong + "C" * 6 + "D" * 8 + "R" * 3 + "."] * many)
                self.assertEqual(fault_counts(bus, many), [1] * many)

    def test_it_does_not_give_way_behind_the_name(self):
        # The count's last bit is the first 1 behind the name.
        bus = bus_with(1, [(0, PLAIN)])
        run(bus, flips_at([15], 16))
        self.assertEqual((bus.mode(0), bus.faults(0)), ("cry", 1))

    def test_it_does_not_give_way_at_a_bit_put_in(self):
        # Name 0: the put-in 1 stand at 5 and 11. Name 64: at 5. Name 1: the second one at 11, ahead of the last bit.
        for name, place in ((0, 5), (0, 11), (64, 5), (1, 5), (1, 11)):
            bus = bus_with(2, [(0, (name, []))])
            run(bus, flips_at([place], place + 1))
            self.assertEqual(modes(bus, 2), "CC")
            self.assertEqual(fault_counts(bus, 2), [1, 1])

    def test_it_does_not_give_way_to_a_1(self):
        # The noughts of the name 1365 stand at even places.
        for place in (0, 2, 4, 6, 8, 10):
            bus = bus_with(1, [(0, PLAIN)])
            run(bus, flips_at([place], place + 1))
            self.assertEqual((bus.mode(0), bus.faults(0)), ("cry", 1))

    def test_one_that_gave_way_begins_anew_with_its_first(self):
        bus = bus_with(2, [(0, (9, [])), (1, (3, []))])
        run(bus, [0] * len(whole((3, []))))
        send(bus, 0, 8, [])
        run(bus, [0] * 3)
        self.assertEqual(run(bus, [0] * len(whole((8, [])))), whole((8, [])))
        self.assertEqual(bus.waits(0), [(9, [])])
        self.assertEqual(bus.heard(1), [(8, [])])

    def test_one_that_was_turned_away_wrongly_while_another_speaks(self):
        # 1365 and 1364: at the last bit of the name the 0 of node 1 is turned to 1. Node 1 has a fault and cries,
        # node 0 goes on sending, and cries when it hears 0 for the count's last bit, a 1.
        bus = bus_with(2, [(0, (1365, [0])), (1, (1364, [0]))])
        bits, tales = watch(bus, 2, flips_at([11], 12 + 6 + 4))
        self.assertEqual(bits, "010101010101" "000000" "0000")
        self.assertEqual(tales, ["F" * 15 + "C" * 6 + "D", "F" * 11 + "C" * 6 + "D" * 5])
        self.assertEqual(fault_counts(bus, 2), [1, 1])

    def test_nobody_hears_its_own(self):
        bus = Bus(3)
        send(bus, 0, 5, [])
        send(bus, 1, 6, [])
        while bus.waits(0) or bus.waits(1):
            step(bus, 0)
        self.assertEqual([bus.heard(k) for k in range(3)], [[(6, [])], [(5, [])], [(5, []), (6, [])]])


if __name__ == "__main__":
    unittest.main()
