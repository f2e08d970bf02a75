"""[2.5] The end of a frame: the very bits at which it is heard, waits no more, and all are free again."""

import unittest

from bitbus.buses import run, send, step
from tests.reference import some_frames
from tests.wires import PLAIN, bus_with, fault_counts, modes, watch, whole


class End(unittest.TestCase):
    def test_heard_and_waiting_no_more_with_the_last_of_the_seven(self):
        for many in (2, 3, 8):
            bus = bus_with(many, [(1, PLAIN)])
            for place in range(48):
                step(bus, 0)
                self.assertEqual(modes(bus, many), "F" * many)
                self.assertEqual(bus.waits(1), [PLAIN])
                self.assertEqual([bus.heard(k) for k in range(many)], [[]] * many)
            step(bus, 0)
            self.assertEqual(modes(bus, many), "R" * many)
            self.assertEqual(bus.waits(1), [])
            self.assertEqual([bus.heard(k) for k in range(many) if k != 1], [[PLAIN]] * (many - 1))
            self.assertEqual(bus.heard(1), [])

    def test_the_very_bit_for_frames_of_every_length(self):
        for frame in some_frames()[::3]:
            bus = bus_with(2, [(0, frame)])
            run(bus, [0] * (len(whole(frame)) - 1))
            self.assertEqual((bus.heard(1), bus.waits(0), modes(bus, 2)), ([], [frame], "FF"))
            step(bus, 0)
            self.assertEqual((bus.heard(1), bus.waits(0), modes(bus, 2)), ([frame], [], "RR"))

    def test_free_behind_three_1(self):
        bus = bus_with(3, [(0, PLAIN)])
        run(bus, [0] * 49)
        bits, tales = watch(bus, 3, [0] * 10)
        self.assertEqual(bits, "1" * 10)
        self.assertEqual(tales, ["RR" "........"] * 3)

    def test_the_three_are_counted_since_rest_began(self):
        # Read behind one 1 of rest, and heard whole: three more are asked for, not two.
        bus = bus_with(2, [(0, PLAIN)])
        run(bus, [0] * 50)
        run(bus, [1 - bit for bit in whole((6, []))[:-10]] + [0] * 10)
        self.assertEqual(bus.heard(1), [PLAIN, (6, [])])
        self.assertEqual(bus.heard(0), [(6, [])])
        bits, tales = watch(bus, 2, [0] * 4)
        self.assertEqual(tales, ["RR" ".."] * 2)

    def test_two_frames_one_behind_the_other(self):
        first = (500, [1, 2])
        second = (501, [3])
        length = len(whole(first))
        for one, other in ((0, 0), (0, 1), (1, 0)):
            bus = bus_with(3, [(one, first), (other, second)])
            bits, tales = watch(bus, 3, [0] * (length + 3 + len(whole(second))))
            self.assertEqual([int(sign) for sign in bits], whole(first) + [1, 1, 1] + whole(second))
            tale = "F" * (length - 1) + "RRR" "." + "F" * (len(whole(second)) - 1) + "R"
            self.assertEqual(tales, [tale] * 3)
            self.assertEqual(bus.heard(2), [first, second])
            self.assertEqual([bus.waits(k) for k in range(3)], [[], [], []])
            self.assertEqual(fault_counts(bus, 3), [0, 0, 0])

    def test_what_was_sent_meanwhile_still_waits(self):
        # A lesser one stands ahead of the one that is being sent, one of the same name behind it.
        for at in range(1, 49):
            bus = bus_with(2, [(0, PLAIN)])
            run(bus, [0] * at)
            send(bus, 0, 1365, [1])
            send(bus, 0, 9, [2])
            send(bus, 0, 2000, [3])
            self.assertEqual(bus.waits(0), [(9, [2]), PLAIN, (1365, [1]), (2000, [3])])
            run(bus, [0] * (49 - at))
            self.assertEqual(bus.waits(0), [(9, [2]), (1365, [1]), (2000, [3])])
            self.assertEqual(bus.heard(1), [PLAIN])
            run(bus, [0] * 200)
            self.assertEqual(bus.waits(0), [])
            self.assertEqual(bus.heard(1), [PLAIN, (9, [2]), (1365, [1]), (2000, [3])])

    def test_the_same_frame_twice(self):
        bus = bus_with(2, [(0, PLAIN), (0, PLAIN)])
        run(bus, [0] * 49)
        self.assertEqual((bus.waits(0), bus.heard(1)), ([PLAIN], [PLAIN]))
        run(bus, [0] * 52)
        self.assertEqual((bus.waits(0), bus.heard(1)), ([], [PLAIN, PLAIN]))
        run(bus, [0] * 200)
        self.assertEqual(bus.heard(1), [PLAIN, PLAIN])

    def test_a_name_that_was_heard_may_be_sent_by_another(self):
        bus = bus_with(2, [(0, (7, [1]))])
        run(bus, [0] * len(whole((7, [1]))))
        send(bus, 1, 7, [2])
        run(bus, [0] * (3 + len(whole((7, [2])))))
        self.assertEqual((bus.heard(0), bus.heard(1)), ([(7, [2])], [(7, [1])]))


if __name__ == "__main__":
    unittest.main()
