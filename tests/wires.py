"""What the tests of the bus share: the bits of a frame on the wire, and a bus watched bit by bit."""

from bitbus.buses import Bus, send, step
from tests.other_bus import wire_text
from tests.reference import list_of

SIGNS = {"free": ".", "frame": "F", "cry": "C", "dazed": "D", "rest": "R"}

# Behind the stuffed bits: 1, the answer, 1, seven times 1.
BEHIND = "101" "1111111"

# A frame in which no bit is put in: the name at 1 to 11, the count at 12 to 15, the byte at 16 to 23, the check at
# 24 to 38, a 1 at 39, the answer at 40, a 1 at 41, the seven at 42 to 48.
PLAIN = (1365, [90])
PLAIN_TEXT = "0" "10101010101" "0001" "01011010" "101010101010001" + BEHIND


def stuffed_bits(frame):
    return list_of(wire_text(frame[0], tuple(frame[1])))


def whole(frame):
    """All bits of a frame on the wire, where someone answers."""
    return stuffed_bits(frame) + list_of(BEHIND)


def bus_with(many, frames):
    """A bus at whose nodes these frames wait: pairs of a node and a frame."""
    bus = Bus(many)
    for node, frame in frames:
        send(bus, node, frame[0], frame[1])
    return bus


def flips_at(places, length):
    return [1 if at in places else 0 for at in range(length)]


def modes(bus, many):
    return "".join(SIGNS[bus.mode(node)] for node in range(many))


def watch(bus, many, flips):
    """The bits as a text, and the modes behind each bit, a text for each node."""
    bits = ""
    tales = [""] * many
    for flip in flips:
        bits += str(step(bus, flip))
        now = modes(bus, many)
        tales = [tale + sign for tale, sign in zip(tales, now)]
    return bits, tales


def fault_counts(bus, many):
    return [bus.faults(node) for node in range(many)]


def state_of(bus, many):
    """All that can be seen of a bus."""
    rows = [(bus.heard(k), bus.waits(k), bus.faults(k), bus.mode(k)) for k in range(many)]
    return bus.time(), rows
