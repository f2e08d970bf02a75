"""[0.1] Nothing handed in is changed or kept, lists are new; [0.2] least name first, and each heard just once."""

import random
import unittest

from bitbus.buses import Bus, run, send, step
from bitbus.errors import BadFrame
from tests.wires import PLAIN, bus_with, fault_counts, flips_at, modes, state_of, whole


class Lists(unittest.TestCase):
    def test_a_row_that_is_changed_afterwards(self):
        for at in (0, 10, 30, 48):
            bus = Bus(2)
            row = [90]
            send(bus, 0, 1365, row)
            self.assertEqual(row, [90])
            run(bus, [0] * at)
            row[0] = 91
            row.append(300)
            self.assertEqual(bus.waits(0), [PLAIN])
            run(bus, [0] * (49 - at))
            self.assertEqual(bus.heard(1), [PLAIN])
            self.assertEqual(row, [91, 300])

    def test_one_row_for_two_frames(self):
        bus = Bus(2)
        row = [1]
        send(bus, 0, 5, row)
        send(bus, 0, 6, row)
        send(bus, 1, 7, row)
        row.clear()
        self.assertEqual(bus.waits(0), [(5, [1]), (6, [1])])
        self.assertEqual(bus.waits(1), [(7, [1])])

    def test_flips_stay(self):
        bus = bus_with(2, [(0, PLAIN)])
        flips = flips_at([5, 70], 100)
        bits = run(bus, flips)
        self.assertEqual(flips, flips_at([5, 70], 100))
        before = state_of(bus, 2)
        flips.clear()
        bits.append(7)
        self.assertEqual(state_of(bus, 2), before)

    def test_told_lists_are_new(self):
        for at in (0, 20, 49, 60):
            bus = bus_with(3, [(0, PLAIN), (0, (2000, [1, 2])), (1, (2001, []))])
            other = bus_with(3, [(0, PLAIN), (0, (2000, [1, 2])), (1, (2001, []))])
            self.assertEqual(run(bus, [0] * at), run(other, [0] * at))
            for node in range(3):
                for ask in (bus.heard, bus.waits):
                    for name, row in ask(node):
                        row.append(9)
                        row[0] = 300
                    told = ask(node)
                    told.append((1, [1]))
                    told.reverse()
                    self.assertIsNot(ask(node), ask(node))
            self.assertEqual(state_of(bus, 3), state_of(other, 3))
            self.assertEqual(run(bus, [0] * 300), run(other, [0] * 300))
            self.assertEqual(state_of(bus, 3), state_of(other, 3))
            self.assertEqual(bus.heard(2), [PLAIN, (2000, [1, 2]), (2001, [])])

    def test_what_was_told_does_not_change_with_the_bus(self):
        bus = bus_with(2, [(0, PLAIN)])
        waited = bus.waits(0)
        heard = bus.heard(1)
        run(bus, [0] * 60)
        self.assertEqual((waited, heard), ([PLAIN], []))

    def test_the_same_each_time(self):
        tales = []
        for time in range(3):
            bus = bus_with(3, [(0, PLAIN), (1, (3, [4])), (2, (5, [0] * 8))])
            tales.append((run(bus, flips_at([7, 90, 155, 250], 500)), state_of(bus, 3)))
        self.assertEqual(tales[0], tales[1])
        self.assertEqual(tales[0], tales[2])


class Watched:
    """A bus of which each bit is looked at: who is to hear what, and when."""

    def __init__(self, test, many):
        self.test = test
        self.many = many
        self.bus = Bus(many)
        self.sent = [[] for k in range(many)]
        self.order = []
        self.least = None

    def send(self, node, name, row):
        send(self.bus, node, name, row)
        self.sent[node].append((name, row))

    def waiting(self):
        return [(frame, k) for k in range(self.many) for frame in self.bus.waits(k)]

    def step(self, flip):
        if modes(self.bus, self.many) == "." * self.many:
            self.least = min((frame[0] for frame, k in self.waiting()), default=None)
        before = self.waiting()
        heard = [self.bus.heard(k) for k in range(self.many)]
        step(self.bus, flip)
        after = self.waiting()
        for frame, k in after:
            before.remove((frame, k))
        # What waits no more is one frame at the most, and just now heard by all the others, and by nobody else.
        self.test.assertLessEqual(len(before), 1)
        for k in range(self.many):
            heard[k] += [frame for frame, sender in before if sender != k]
            self.test.assertEqual(self.bus.heard(k), heard[k])
        for frame, sender in before:
            self.test.assertEqual(frame[0], self.least)
            self.order.append((frame, sender))

    def run(self, flips):
        for flip in flips:
            self.step(flip)

    def finish(self):
        """Behind the last turned bit: all that waits goes through, each frame with at most eight bytes and rest."""
        for time in range(len(self.waiting()) + 1):
            self.run([0] * 150)
        self.test.assertEqual(self.waiting(), [])
        self.test.assertEqual(modes(self.bus, self.many), "." * self.many)
        for k in range(self.many):
            own = [frame for frame, sender in self.order if sender == k]
            self.test.assertEqual(sorted(own), sorted(self.sent[k]))
            self.test.assertEqual(self.bus.heard(k), [frame for frame, sender in self.order if sender != k])


class JustOnce(unittest.TestCase):
    def filled(self, many, frames):
        watched = Watched(self, many)
        for node, frame in frames:
            watched.send(node, frame[0], frame[1])
        return watched

    def test_a_single_turned_bit_at_every_place(self):
        sets = (
            (2, [(0, PLAIN), (1, (1366, []))]),
            (3, [(0, (0, [])), (1, (1, [255])), (1, (2047, []))]),
            (3, [(0, (2047, [255])), (0, (2046, [0])), (2, (2045, [7]))]),
            (2, [(0, (31, [15, 248, 0])), (1, (32, [1]))]),
        )
        for many, frames in sets:
            least = min((frame for node, frame in frames), key=lambda frame: frame[0])
            for place in range(len(whole(least)) + 30):
                watched = self.filled(many, frames)
                watched.run(flips_at([place], place + 1))
                watched.finish()
                self.assertLessEqual(max(fault_counts(watched.bus, many)), 1)

    def test_turned_bits_61_apart_at_every_place(self):
        frames = [(0, (700, [1, 2])), (0, (3, [])), (1, (701, [255] * 3)), (2, (2, [0] * 8)), (2, (1500, [85]))]
        for begin in range(61):
            watched = self.filled(3, frames)
            watched.run(flips_at(range(begin, 700, 61), 700))
            watched.finish()

    def test_a_turned_bit_on_a_wire_on_which_nobody_speaks(self):
        for many in (1, 2, 8):
            watched = Watched(self, many)
            watched.run(flips_at(range(0, 1000, 61), 1000))
            watched.finish()
            self.assertEqual(fault_counts(watched.bus, many), [17] * many)

    def test_a_frame_sent_around_a_turned_bit(self):
        for at in range(30):
            for name in (0, 1, 900, 2047):
                watched = Watched(self, 3)
                watched.run(flips_at([0], 1) + [0] * at)
                watched.send(1, name, [at])
                watched.finish()
                self.assertEqual(watched.bus.heard(0), [(name, [at])])

    def random_run(self, seed, turned):
        source = random.Random(seed)
        many = source.randrange(2, 9)
        watched = Watched(self, many)
        names = source.sample(range(2048), 6) + source.choice(([], [0, 1, 2, 2045, 2046, 2047]))
        wait = source.randrange(61)
        for number in range(1200):
            if source.randrange(60) == 0 and number < 900:
                node = source.randrange(many)
                # The number tells frames of one name from one another.
                row = [number // 256, number % 256] + [source.choice((0, 255, 7))] * source.randrange(7)
                try:
                    watched.send(node, source.choice(names), row)
                except BadFrame:
                    pass
            flip = 0
            if turned and wait <= 0:
                flip = 1
                wait = 61 + source.choice((0, source.randrange(10), source.randrange(200)))
            wait -= 1
            watched.step(flip)
        watched.finish()
        return watched

    def test_longer_runs_without_turned_bits(self):
        for seed in range(12):
            watched = self.random_run(seed, False)
            self.assertEqual(fault_counts(watched.bus, watched.many), [0] * watched.many)
            self.assertGreater(len(watched.order), 3)

    def test_longer_runs_with_turned_bits(self):
        for seed in range(100, 130):
            watched = self.random_run(seed, True)
            self.assertGreater(min(fault_counts(watched.bus, watched.many)), 0)

    def test_one_node_alone(self):
        bus = bus_with(1, [(0, PLAIN), (0, (3, []))])
        run(bus, flips_at(range(0, 3000, 61), 3000))
        self.assertEqual(bus.heard(0), [])


if __name__ == "__main__":
    unittest.main()
