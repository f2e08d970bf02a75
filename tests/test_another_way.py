"""[2.1] to [2.5], [3.1]: the bus and the same bus another way, side by side, bit by bit."""

import copy
import random
import unittest

from bitbus.buses import Bus, send, step
from bitbus.errors import BadFrame
from tests.other_bus import OtherBus
from tests.wires import stuffed_bits

ROWS = ([], [0], [255], [1, 2, 3], [0] * 8, [255] * 8, [85, 170], [15, 240, 31, 248])


class SideBySide(unittest.TestCase):
    def setUp(self):
        self.seen = set()

    def begin(self, many):
        self.many = many
        self.bus = Bus(many)
        self.other = OtherBus(many)

    def send(self, node, name, row):
        try:
            send(self.bus, node, name, row)
        except BadFrame:
            waiting = [frame[0] for k in range(self.many) if k != node for frame in self.other.waits[k]]
            self.assertIn(name, waiting)
        else:
            self.other.send(node, name, row)

    def step(self, flip):
        bit = step(self.bus, flip)
        self.assertEqual(bit, self.other.step(flip))
        for k in range(self.many):
            self.assertEqual(self.bus.mode(k), self.other.modes[k])
            self.assertEqual(self.bus.faults(k), self.other.faults[k])
            self.assertEqual(self.bus.waits(k), self.other.waits[k])
            self.assertEqual(self.bus.heard(k), self.other.heard[k])
        self.seen.add(frozenset(self.other.modes))

    def some_sends(self, source, names):
        if source.randrange(25) == 0:
            self.send(source.randrange(self.many), source.choice(names), source.choice(ROWS))

    def random_run(self, seed, flip_of):
        source = random.Random(seed)
        self.begin(source.randrange(1, 9))
        names = [source.randrange(2048) for k in range(4)] + [0, 1, 31, 992, 2046, 2047]
        for time in range(500):
            self.some_sends(source, names)
            self.step(flip_of(source, time))

    def test_without_turned_bits(self):
        for seed in range(6):
            self.random_run(seed, lambda source, time: 0)

    def test_with_few_turned_bits(self):
        for seed in range(20):
            self.random_run(seed, lambda source, time: int(source.randrange(80) == 0))

    def test_with_many_turned_bits(self):
        for seed in range(20):
            share = (2, 3, 5, 10, 20)[seed % 5]
            self.random_run(seed, lambda source, time: int(source.randrange(share) == 0))

    def test_with_turned_bits_in_heaps(self):
        for seed in range(60):
            self.random_run(seed, lambda source, time: int(time % 50 < 15 and source.randrange(3) == 0))

    def turn_the_cries(self, source, time):
        """Cries that are heard as 1 by those who are dazed already bring the nodes out of step."""
        now = {self.bus.mode(k) for k in range(self.many)}
        if "cry" in now and len(now) > 1:
            return int(source.randrange(4) > 0)
        return int(source.randrange(40) == 0)

    def test_with_nodes_out_of_step(self):
        for seed in range(60):
            self.random_run(seed, self.turn_the_cries)
        for one in ("free", "frame", "cry", "dazed", "rest"):
            for other in ("cry", "dazed"):
                self.assertTrue(any(one in seen and other in seen for seen in self.seen), (one, other))

    def test_two_bits_turned_near_to_one_another(self):
        frames = ((0, 1365, [90]), (1, 1364, [7]), (2, 31, []))
        for first in range(0, 60):
            for second in range(first + 1, first + 24, 3):
                self.begin(3)
                for node, name, row in frames:
                    self.send(node, name, row)
                for time in range(second + 45):
                    self.step(int(time in (first, second)))

    def test_frames_that_nobody_sent(self):
        # Turned bits make a frame, or one that is wrong somewhere, while another node may begin at the same time.
        source = random.Random(8)
        for seed in range(60):
            self.begin(source.randrange(1, 5))
            if source.randrange(2):
                self.send(0, source.choice((5, 700, 2047)), [1])
            bits = stuffed_bits((source.randrange(2048), source.choice(ROWS)))
            if source.randrange(2):
                at = source.randrange(len(bits))
                bits[at] = 1 - bits[at]
            for bit in bits:
                put = self.put_now()
                self.step(put ^ bit)
            for time in range(60):
                self.step(int(source.randrange(30) == 0))

    def put_now(self):
        """The bit that will be on the wire, if it is not turned: told by a copy that goes ahead."""
        return step(copy.deepcopy(self.bus), 0)


if __name__ == "__main__":
    unittest.main()
