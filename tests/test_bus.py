"""[3.1] The bus, its nodes, sending and refusals; the interface's row of bitbus/buses.py."""

import itertools
import unittest

from bitbus.buses import Bus, run, send, step
from bitbus.errors import BadBits, BadFrame, BusError, NoNode
from tests.wires import PLAIN, bus_with, flips_at, state_of, whole

BIG = 999999999999999
NOT_COUNTS = (0, 9, 10, 16, 100, BIG, -1, -2, -8, -9, -BIG)
BAD_FRAMES = (
    (-1, []), (2048, []), (BIG, [1]), (-BIG, []), (5, [256]), (5, [-1]), (5, [0, 0, BIG]), (5, [0] * 9),
    (2048, [256] * 9),
)


def not_nodes(many):
    return (many, many + 1, 8, 9, 100, BIG, -1, -many, -many - 1, -BIG)


class Nodes(unittest.TestCase):
    def test_one_to_eight(self):
        for many in range(1, 9):
            bus = Bus(many)
            for node in range(many):
                self.assertEqual(bus.mode(node), "free")
            for node in not_nodes(many):
                with self.assertRaises(NoNode):
                    bus.mode(node)

    def test_other_counts(self):
        for many in NOT_COUNTS:
            with self.assertRaises(NoNode, msg=many) as caught:
                Bus(many)
            self.assertNotIsInstance(caught.exception, (BadFrame, BadBits))
            self.assertIsInstance(caught.exception, BusError)

    def test_a_node_that_is_not_there(self):
        for many in (1, 2, 8):
            for node in not_nodes(many):
                bus = bus_with(many, [(0, PLAIN)])
                run(bus, [0] * 30)
                before = state_of(bus, many)
                for ask in (bus.heard, bus.waits, bus.faults, bus.mode):
                    with self.assertRaises(NoNode, msg=(many, node)):
                        ask(node)
                self.assertEqual(state_of(bus, many), before)

    def test_sent_to_a_node_that_is_not_there(self):
        for many in (1, 2, 8):
            for node in not_nodes(many):
                bus = bus_with(many, [(0, PLAIN)])
                before = state_of(bus, many)
                # Ahead of other refusals: frames that are bad, and a name that waits.
                for name, row in ((5, []), PLAIN) + BAD_FRAMES:
                    with self.assertRaises(NoNode, msg=(many, node, name)):
                        send(bus, node, name, row)
                self.assertEqual(state_of(bus, many), before)


class Send(unittest.TestCase):
    def check_refused(self, bus, many, node, name, row):
        before = state_of(bus, many)
        kept = list(row)
        with self.assertRaises(BadFrame, msg=(node, name, row)) as caught:
            send(bus, node, name, row)
        self.assertNotIsInstance(caught.exception, (NoNode, BadBits))
        self.assertEqual(state_of(bus, many), before)
        self.assertEqual(row, kept)

    def test_a_frame_waits(self):
        for many in (1, 2, 8):
            for node in range(many):
                bus = Bus(many)
                self.assertIsNone(send(bus, node, 5, [6, 7]))
                for k in range(many):
                    self.assertEqual(bus.waits(k), [(5, [6, 7])] if k == node else [])
                self.assertEqual(bus.time(), 0)

    def test_ends_of_names_and_bytes(self):
        for frame in ((0, []), (2047, []), (0, [0] * 8), (2047, [255] * 8)):
            self.assertEqual(bus_with(2, [(1, frame)]).waits(1), [frame])

    def test_bad_frames(self):
        for name, row in BAD_FRAMES:
            for many in (1, 3):
                bus = Bus(many)
                self.check_refused(bus, many, 0, name, row)
                send(bus, 0, 5, [])
                run(bus, [0] * 20)
                self.check_refused(bus, many, 0, name, row)
                self.check_refused(bus, many, many - 1, name, row)

    def test_a_name_that_waits_at_another_node(self):
        for one, other in itertools.permutations(range(3), 2):
            bus = bus_with(3, [(one, (8, [1])), (one, (5, [1])), (one, (9, []))])
            for name in (5, 8, 9):
                for row in ([1], [2], []):
                    self.check_refused(bus, 3, other, name, row)
            for name in (4, 6, 7, 10):
                send(bus, other, name, [])
            self.assertEqual(bus.waits(other), [(4, []), (6, []), (7, []), (10, [])])

    def test_a_name_that_is_being_sent_by_another_node(self):
        length = len(whole(PLAIN))
        for at in range(length):
            bus = bus_with(2, [(0, PLAIN)])
            run(bus, [0] * at)
            self.check_refused(bus, 2, 1, 1365, [1])
        bus = bus_with(2, [(0, PLAIN)])
        run(bus, [0] * length)
        send(bus, 1, 1365, [1])
        self.assertEqual(bus.waits(1), [(1365, [1])])

    def test_a_name_that_was_cried_down_still_waits(self):
        for place in (0, 1, 2, 24, 40, 48):
            bus = bus_with(2, [(0, PLAIN)])
            run(bus, flips_at([place], place + 12))
            self.check_refused(bus, 2, 1, 1365, [])

    def test_the_same_name_twice_at_one_node(self):
        bus = bus_with(2, [(0, (5, [1])), (0, (5, [2])), (0, (5, [1])), (0, (4, [])), (0, (5, [0]))])
        self.assertEqual(bus.waits(0), [(4, []), (5, [1]), (5, [2]), (5, [1]), (5, [0])])
        run(bus, [0] * 400)
        self.assertEqual(bus.heard(1), [(4, []), (5, [1]), (5, [2]), (5, [1]), (5, [0])])

    def test_the_order_of_what_waits(self):
        for names in itertools.permutations((3, 3, 5, 7)):
            frames = [(name, [k]) for k, name in enumerate(names)]
            bus = bus_with(2, [(1, frame) for frame in frames])
            self.assertEqual(bus.waits(1), sorted(frames, key=lambda frame: frame[0]))
            run(bus, [0] * 300)
            self.assertEqual(bus.heard(0), sorted(frames, key=lambda frame: frame[0]))

    def test_lesser_ones_while_one_is_being_sent(self):
        bus = bus_with(2, [(0, (50, [0]))])
        run(bus, [0] * 20)
        for name in (40, 60, 50, 30):
            send(bus, 0, name, [1])
        self.assertEqual(bus.waits(0), [(30, [1]), (40, [1]), (50, [0]), (50, [1]), (60, [1])])
        run(bus, [0] * 400)
        self.assertEqual(bus.heard(1), [(50, [0]), (30, [1]), (40, [1]), (50, [1]), (60, [1])])

    def test_what_was_refused_changes_nothing_of_what_comes(self):
        plain = bus_with(3, [(0, (9, [1])), (1, (8, [2]))])
        other = bus_with(3, [(0, (9, [1])), (1, (8, [2]))])
        for at in range(200):
            for node, name, row in ((1, 9, []), (2, 8, [3]), (0, -1, []), (3, 1, []), (-1, 1, []), (0, 0, [256])):
                if at < 40:
                    with self.assertRaises(BusError):
                        send(other, node, name, row)
            flip = 1 if at == 30 else 0
            self.assertEqual(step(plain, flip), step(other, flip))
            self.assertEqual(state_of(plain, 3), state_of(other, 3))

    def test_buses_know_nothing_of_one_another(self):
        one = bus_with(2, [(0, (5, []))])
        other = bus_with(2, [(1, (5, [1]))])
        run(one, [0] * 60)
        self.assertEqual(state_of(other, 2), state_of(bus_with(2, [(1, (5, [1]))]), 2))


class Interface(unittest.TestCase):
    def test_kinds(self):
        bus = bus_with(2, [(0, PLAIN), (0, (2000, []))])
        bits = run(bus, [0] * 49)
        self.assertIs(type(bits), list)
        self.assertIs(type(step(bus, 0)), int)
        self.assertIs(type(step(bus, 1)), int)
        self.assertTrue(all(type(bit) is int and bit in (0, 1) for bit in bits))
        self.assertIs(type(bus.time()), int)
        self.assertIs(type(bus.faults(0)), int)
        self.assertIs(type(bus.mode(0)), str)
        for told in (bus.heard(1), bus.waits(0)):
            self.assertIs(type(told), list)
            self.assertEqual(len(told), 1)
            self.assertIs(type(told[0]), tuple)
            self.assertEqual(len(told[0]), 2)
            self.assertIs(type(told[0][0]), int)
            self.assertIs(type(told[0][1]), list)

    def test_time(self):
        bus = Bus(2)
        for time in range(10):
            self.assertEqual(bus.time(), time)
            step(bus, time % 2)
        run(bus, [])
        self.assertEqual(bus.time(), 10)
        run(bus, [0, 1, 0])
        self.assertEqual(bus.time(), 13)
        send(bus, 0, 1, [])
        self.assertEqual(bus.time(), 13)

    def test_run_is_many_steps(self):
        flips = flips_at([3, 20, 40, 41, 90], 150)
        one = bus_with(3, [(0, PLAIN), (2, (4, [5]))])
        other = bus_with(3, [(0, PLAIN), (2, (4, [5]))])
        self.assertEqual(run(one, flips), [step(other, flip) for flip in flips])
        self.assertEqual(state_of(one, 3), state_of(other, 3))
        self.assertEqual(run(one, []), [])
        self.assertEqual(state_of(one, 3), state_of(other, 3))

    def test_arguments_by_their_names(self):
        bus = Bus(many=2)
        send(bus=bus, node=0, name=7, row=[1])
        self.assertEqual(step(bus=bus, flip=0), 0)
        self.assertEqual(run(bus=bus, flips=[0]), [0])
        self.assertEqual(bus.waits(node=0), [(7, [1])])
        self.assertEqual(bus.heard(node=1), [])
        self.assertEqual(bus.faults(node=0), 0)
        self.assertEqual(bus.mode(node=0), "frame")


if __name__ == "__main__":
    unittest.main()
