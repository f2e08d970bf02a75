"""[2.1] The bit on the wire; [2.2] who begins, who is in a frame and reads."""

import unittest

from bitbus.buses import Bus, run, send, step
from tests.reference import text_of
from tests.wires import PLAIN, PLAIN_TEXT, bus_with, fault_counts, flips_at, modes, stuffed_bits, watch, whole


class Wire(unittest.TestCase):
    def test_all_are_free_at_first(self):
        for many in range(1, 9):
            bus = Bus(many)
            self.assertEqual(bus.time(), 0)
            for node in range(many):
                self.assertEqual(bus.mode(node), "free")
                self.assertEqual(bus.faults(node), 0)
                self.assertEqual(bus.heard(node), [])
                self.assertEqual(bus.waits(node), [])

    def test_a_wire_on_which_nobody_speaks(self):
        for many in range(1, 9):
            bus = Bus(many)
            self.assertEqual(run(bus, [0] * 50), [1] * 50)
            self.assertEqual(modes(bus, many), "." * many)
            self.assertEqual(bus.time(), 50)

    def test_a_1_turned_over(self):
        for many in (1, 2, 3):
            self.assertEqual(step(Bus(many), 1), 0)

    def test_a_0_turned_over(self):
        for many in (1, 2, 3):
            for node in range(many):
                self.assertEqual(step(bus_with(many, [(node, PLAIN)]), 0), 0)
                self.assertEqual(step(bus_with(many, [(node, PLAIN)]), 1), 1)

    def test_the_plain_frame(self):
        self.assertEqual(text_of(whole(PLAIN)), PLAIN_TEXT)

    def test_one_speaks_and_the_others_put_1_but_for_the_answer(self):
        for many in (2, 3, 8):
            for node in range(many):
                bus = bus_with(many, [(node, PLAIN)])
                self.assertEqual(text_of(run(bus, [0] * 49)), PLAIN_TEXT)
                self.assertEqual(fault_counts(bus, many), [0] * many)

    def test_the_least_of_two_and_three(self):
        # Wherever two of the names differ, the wire has the 0.
        for names, name in (((1792, 1365), "10101010101"), ((2047, 2046), "11111111110"),
                            ((1365, 1364), "10101010100"), ((1365, 1364, 1301), "10100010101"),
                            ((1365, 1364, 341), "00101010101"), ((1024, 1023, 1025), "01111111111")):
            least = min(names)
            bus = bus_with(len(names), [(node, (name, [])) for node, name in enumerate(names)])
            self.assertEqual(format(least, "011b"), name)
            self.assertEqual(run(bus, [0] * len(whole((least, [])))), whole((least, [])))

    def test_each_bit_of_a_frame_turned_over_is_the_other_bit(self):
        for many in (1, 2, 3):
            for at in range(40):
                bus = bus_with(many, [(0, PLAIN)])
                bits = text_of(run(bus, flips_at([at], at + 1)))
                self.assertEqual(bits[:at], PLAIN_TEXT[:at])
                self.assertNotEqual(bits[at], PLAIN_TEXT[at])

    def test_who_cries_puts_0_and_who_is_dazed_puts_1(self):
        # Node 0 cries from its turned first bit on, node 1 from the sixth 0 on: each alone holds the wire down.
        bus = bus_with(2, [(0, PLAIN)])
        self.assertEqual(text_of(run(bus, flips_at([0], 24))), "1" "000000" "000000" "11111111" "111")

    def test_turned_bits_of_those_who_cry_are_heard(self):
        bus = bus_with(2, [(0, PLAIN)])
        self.assertEqual(text_of(run(bus, [1] * 7)), "1" "111111")

    def test_one_node_alone_gets_no_answer(self):
        bus = bus_with(1, [(0, PLAIN)])
        # The stuffed bits, a 1, a 1 for the answer; six cries, eight and three 1; and all of it again.
        round_text = PLAIN_TEXT[:40] + "1" + "000000" + "11111111" + "111"
        tale = "F" * 40 + "C" * 6 + "D" * 8 + "R" * 3 + "."
        for time in range(5):
            bits, tales = watch(bus, 1, [0] * len(round_text))
            self.assertEqual(bits, round_text)
            self.assertEqual(tales, [tale])
            self.assertEqual(bus.faults(0), time + 1)
            self.assertEqual(bus.waits(0), [PLAIN])
            self.assertEqual(bus.heard(0), [])

    def test_one_node_alone_to_which_a_turned_bit_is_the_answer(self):
        bus = bus_with(1, [(0, PLAIN)])
        self.assertEqual(text_of(run(bus, flips_at([40], 49))), PLAIN_TEXT)
        self.assertEqual(bus.waits(0), [])
        self.assertEqual(bus.heard(0), [])
        self.assertEqual(bus.faults(0), 0)
        self.assertEqual(bus.mode(0), "rest")


class Begin(unittest.TestCase):
    def test_one_begins_while_the_others_are_free(self):
        for many in (2, 3, 8):
            bus = Bus(many)
            run(bus, [0] * 5)
            send(bus, 1, 700, [1, 2])
            # It begins with the next bit, not ahead of it.
            self.assertEqual(modes(bus, many), "." * many)
            self.assertEqual(step(bus, 0), 0)
            self.assertEqual(modes(bus, many), "F" * many)
            self.assertEqual(run(bus, [0] * 60), whole((700, [1, 2]))[1:] + [1] * (61 - len(whole((700, [1, 2])))))

    def test_until_the_next_bit_a_lesser_one_may_come(self):
        bus = bus_with(2, [(0, (9, [])), (0, (8, [])), (1, (7, []))])
        self.assertEqual(run(bus, [0] * len(whole((7, [])))), whole((7, [])))
        self.assertEqual(bus.waits(0), [(8, []), (9, [])])

    def test_two_begin_at_once(self):
        bus = bus_with(3, [(0, (6, [1])), (2, (5, [2]))])
        self.assertEqual(step(bus, 0), 0)
        self.assertEqual(modes(bus, 3), "FFF")
        run(bus, [0] * (len(whole((5, [2]))) - 1))
        self.assertEqual([bus.heard(k) for k in range(3)], [[(5, [2])], [(5, [2])], []])
        self.assertEqual([bus.waits(k) for k in range(3)], [[(6, [1])], [], []])
        self.assertEqual(fault_counts(bus, 3), [0, 0, 0])

    def test_a_free_one_that_hears_a_0_reads(self):
        for many in (1, 2, 3):
            bus = Bus(many)
            bits, tales = watch(bus, many, flips_at([0], 24))
            # 0, five 1, and a sixth 1 that no frame has there.
            self.assertEqual(bits, "0" "111111" "000000" "11111111" "111")
            self.assertEqual(tales, ["F" * 6 + "C" * 6 + "D" * 8 + "R" * 3 + "."] * many)
            self.assertEqual(fault_counts(bus, many), [1] * many)

    def test_a_whole_frame_read_behind_a_0_that_nobody_sent(self):
        # Nobody puts these stuffed bits: each is turned from 1, and the answer alone is put.
        for many in (1, 3):
            for frame in (PLAIN, (0, []), (2047, [255] * 8), (31, [0, 7])):
                bus = Bus(many)
                flips = [1 - bit for bit in stuffed_bits(frame)] + [0] * 10
                bits = run(bus, flips)
                self.assertEqual(bits, whole(frame))
                for node in range(many):
                    self.assertEqual(bus.heard(node), [frame])
                    self.assertEqual((bus.mode(node), bus.faults(node)), ("rest", 0))

    def test_one_that_rests_and_hears_a_0(self):
        for ones in range(3):
            bus = bus_with(2, [(0, PLAIN)])
            run(bus, [0] * 49)
            send(bus, 0, 3, [])
            # Behind the third 1 they would be free, and node 0 would begin.
            bits, tales = watch(bus, 2, flips_at([ones], ones + 24))
            self.assertEqual(bits, "1" * ones + "0" "111111" "000000" "11111111" "111")
            self.assertEqual(tales, ["R" * ones + "F" * 6 + "C" * 6 + "D" * 8 + "R" * 3 + "."] * 2)
            self.assertEqual(fault_counts(bus, 2), [1, 1])
            self.assertEqual(run(bus, [0] * len(whole((3, [])))), whole((3, [])))
            self.assertEqual(bus.heard(1), [PLAIN, (3, [])])

    def test_one_that_rests_reads_the_frame_of_another(self):
        # The first bit is turned: node 0 cries first and node 1 behind it. The last two cries of node 1 are turned,
        # so node 0 has two of its eight 1 ahead of node 1, and is free while node 1 still rests.
        bus = bus_with(2, [(0, PLAIN)])
        bits, tales = watch(bus, 2, flips_at([0, 11, 12], 23))
        self.assertEqual(bits, "1" "000000" "000011" "11111111" "1" "0")
        self.assertEqual(tales[0], "C" * 6 + "D" * 12 + "R" * 3 + "." + "F")
        self.assertEqual(tales[1], "." + "F" * 5 + "C" * 6 + "D" * 8 + "RR" + "F")
        self.assertEqual(text_of(run(bus, [0] * 48)), PLAIN_TEXT[1:])
        self.assertEqual(bus.heard(1), [PLAIN])
        self.assertEqual(bus.waits(0), [])
        self.assertEqual(fault_counts(bus, 2), [1, 1])

    def test_one_that_rests_does_not_begin(self):
        bus = bus_with(2, [(0, PLAIN)])
        run(bus, [0] * 49)
        send(bus, 1, 5, [])
        bits, tales = watch(bus, 2, [0] * 4)
        self.assertEqual(bits, "1110")
        self.assertEqual(tales, ["RR.F", "RR.F"])

    def test_sent_while_the_wire_is_busy(self):
        first = (1000, [1, 2, 3])
        length = len(whole(first))
        for other in ((999, [4]), (1001, [4])):
            for node in range(3):
                for at in range(1, length + 3):
                    bus = bus_with(3, [(0, first)])
                    bits = run(bus, [0] * at)
                    send(bus, node, other[0], other[1])
                    bits += run(bus, [0] * (length + 3 - at))
                    self.assertEqual(bits, whole(first) + [1, 1, 1])
                    self.assertEqual(modes(bus, 3), "...")
                    self.assertEqual(bus.waits(node), [other])
                    self.assertEqual(run(bus, [0] * len(whole(other))), whole(other))
                    self.assertEqual(bus.waits(node), [])
                    self.assertEqual(fault_counts(bus, 3), [0, 0, 0])

    def test_sent_while_others_cry_or_are_dazed(self):
        # Node 2 is free for the turned bit alone; then it reads, cries, is dazed and rests, like node 1.
        for at in range(2, 25):
            bus = bus_with(3, [(0, PLAIN)])
            run(bus, flips_at([0], at))
            send(bus, 2, 2000, [])
            run(bus, [0] * (24 - at))
            self.assertEqual(text_of(run(bus, [0] * 49)), PLAIN_TEXT)
            self.assertEqual(bus.waits(2), [(2000, [])])

    def test_one_that_begins_while_another_cries_gives_way_to_nothing_whole(self):
        # Node 0 cries from its turned first bit on; node 2 is still free and begins. Its name begins with a 1: it
        # gives way to the cry at once, and reads six noughts.
        bus = bus_with(3, [(0, PLAIN)])
        step(bus, 1)
        send(bus, 2, 2000, [])
        bits, tales = watch(bus, 3, [0] * 12)
        self.assertEqual(bits, "000000" "000000")
        self.assertEqual(tales[1:], ["FFFFF" "CCCCCC" "D"] * 2)
        self.assertEqual(fault_counts(bus, 3), [1, 1, 1])
        self.assertEqual(bus.waits(2), [(2000, [])])


if __name__ == "__main__":
    unittest.main()
