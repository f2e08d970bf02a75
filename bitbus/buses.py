"""The bus: nodes on one wire, what is sent through them, and the wire bit by bit."""

from bitbus.errors import BadFrame, NoNode
from bitbus.frames import refuse_bad_frame
from bitbus.nodes import Node

MOST_NODES = 8


# Those who are told of frames may change their lists, down to the bytes.
def copies_of(frames):
    return [(frame[0], list(frame[1])) for frame in frames]


class Bus:
    def __init__(self, many):
        if many < 1 or many > MOST_NODES:
            raise NoNode(f"a bus has 1 to {MOST_NODES} nodes, not {many}")
        self.nodes = [Node() for k in range(many)]
        self.bits_past = 0

    def node_at(self, node):
        if node < 0 or node >= len(self.nodes):
            raise NoNode(f"no node {node} is there")
        return self.nodes[node]

    def time(self):
        return self.bits_past

    def heard(self, node):
        return copies_of(self.node_at(node).taken)

    def waits(self, node):
        return copies_of(self.node_at(node).queue)

    def faults(self, node):
        return self.node_at(node).fault_count

    def mode(self, node):
        return self.node_at(node).state


def waits_elsewhere(bus, node, name):
    others = bus.nodes[:node] + bus.nodes[node + 1:]
    return any([other.has_waiting(name) for other in others])


def send(bus, node, name, row):
    sender = bus.node_at(node)
    refuse_bad_frame(name, row)
    if waits_elsewhere(bus, node, name):
        raise BadFrame(f"a frame of the name {name} waits at another node")
    sender.let_wait(name, row)


def step(bus, flip):
    for node in bus.nodes:
        node.begin_if_free()
    bit = min([node.put() for node in bus.nodes])
    if flip == 1:
        bit = 1 - bit
    for node in bus.nodes:
        node.hear(bit)
    bus.bits_past += 1
    return bit


def run(bus, flips):
    return [step(bus, flip) for flip in flips]
