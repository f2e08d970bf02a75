"""Nodes: the bit that each puts on the wire, and what it makes of the bit that it hears."""

from bitbus.frames import Reading, bits_of, parts_of, stuffed

FREE = "free"
FRAME = "frame"
CRY = "cry"
DAZED = "dazed"
REST = "rest"

CRIED_BITS = 6
DAZED_ONES = 8
REST_ONES = 3

# Behind the stuffed bits: 1, the answer, 1, and seven times 1.
ANSWER_AT = 1
BITS_BEHIND = 10


class Node:
    def __init__(self):
        self.state = FREE
        # What the state counts: bits cried, each 1 heard, or the bits behind a frame's stuffed ones.
        self.passed = 0
        self.reading = Reading()
        # The stuffed bits of what it sends; None where it reads.
        self.sending = None
        self.queue = []
        self.taken = []
        self.fault_count = 0

    def has_waiting(self, name):
        return name in [frame[0] for frame in self.queue]

    def let_wait(self, name, row):
        at = 0
        while at < len(self.queue) and self.queue[at][0] <= name:
            at += 1
        self.queue.insert(at, (name, list(row)))

    def begin_if_free(self):
        if self.state == FREE and len(self.queue) > 0:
            first = self.queue[0]
            self.enter_frame(stuffed(bits_of(first[0], first[1])))

    def put(self):
        if self.state == CRY:
            return 0
        if self.state == FRAME:
            return self.put_in_frame()
        return 1

    def put_in_frame(self):
        if self.reading.is_over():
            return 0 if self.passed == ANSWER_AT and self.sending is None else 1
        return 1 if self.sending is None else self.sending[len(self.reading.wire)]

    def hear(self, bit):
        if self.state == FRAME:
            self.hear_in_frame(bit)
        elif self.state == CRY:
            self.pass_one(CRIED_BITS, DAZED)
        elif self.state == DAZED:
            self.hear_dazed(bit)
        else:
            self.hear_between(bit)

    def hear_in_frame(self, bit):
        if self.reading.is_over():
            self.hear_behind(bit)
        else:
            self.hear_stuffed(bit)

    def hear_stuffed(self, bit):
        if self.hears_another(bit) and bit == 0 and self.reading.is_at_name():
            # A lesser name is on the wire: this node gives way, and what it heard is no fault.
            self.sending = None
        if self.hears_another(bit) or bit not in self.reading.choices:
            self.cry_out()
        else:
            self.reading.take(bit)

    def hears_another(self, bit):
        return self.sending is not None and bit != self.sending[len(self.reading.wire)]

    def hear_behind(self, bit):
        if self.is_wrong_behind(bit):
            self.cry_out()
            return
        self.passed += 1
        if self.passed == BITS_BEHIND:
            self.end_frame()

    # A 1 for the answer troubles the one who sends alone: readers hear it cry at the next bit.
    def is_wrong_behind(self, bit):
        if self.passed == ANSWER_AT:
            return bit == 1 and self.sending is not None
        return bit == 0

    def hear_dazed(self, bit):
        if bit == 0:
            self.passed = 0
        else:
            self.pass_one(DAZED_ONES, REST)

    def hear_between(self, bit):
        if bit == 0:
            self.enter_frame(None)
            self.hear_in_frame(bit)
        elif self.state == REST:
            self.pass_one(REST_ONES, FREE)

    def enter_frame(self, sending):
        self.turn_to(FRAME)
        self.reading = Reading()
        self.sending = sending

    def end_frame(self):
        frame = parts_of(self.reading.plain)
        if self.sending is None:
            self.taken.append(frame)
        else:
            self.drop_first(frame[0])
        self.turn_to(REST)

    # Lesser names may have come ahead of the frame that was sent, but none of its own name.
    def drop_first(self, name):
        names = [frame[0] for frame in self.queue]
        self.queue.pop(names.index(name))

    def cry_out(self):
        self.fault_count += 1
        self.turn_to(CRY)

    def pass_one(self, many, state):
        self.passed += 1
        if self.passed == many:
            self.turn_to(state)

    def turn_to(self, state):
        self.state = state
        self.passed = 0
