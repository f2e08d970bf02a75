"""The bus another way: each node one long tale over texts of "0" and "1", none of it the program's own."""

import functools

from tests.reference import frame_text, stuffed_text, unstuffed_text


@functools.lru_cache(maxsize=None)
def wire_text(name, row):
    return stuffed_text(frame_text(name, row))


def read(text):
    """The frame that these bits make, or begin, with noughts for what is missing; None where none begins so."""
    plain = unstuffed_text(text).ljust(16, "0")
    many = int(plain[12:16], 2)
    if plain[0] == "1" or many > 8:
        return None
    data = plain[16:16 + 8 * many].ljust(8 * many, "0")
    return int(plain[1:12], 2), tuple(int(data[at:at + 8], 2) for at in range(0, 8 * many, 8))


@functools.lru_cache(maxsize=None)
def what_is(text):
    """Of the bits of a frame so far: "wrong", "begun" or "whole"."""
    frame = read(text)
    if frame is None or not wire_text(*frame).startswith(text):
        return "wrong"
    return "whole" if wire_text(*frame) == text else "begun"


@functools.lru_cache(maxsize=None)
def may_give_way(text, at):
    """Whether the bit of text at this place is one of the name that is none put in."""
    ahead = len(unstuffed_text(text[:at]))
    return len(unstuffed_text(text[:at + 1])) > ahead and 1 <= ahead <= 11


def one_bit(put):
    """Waits until the bit comes; puts; tells what was heard."""
    yield None
    return (yield put())


class OtherBus:
    def __init__(self, many):
        self.waits = [[] for k in range(many)]
        self.heard = [[] for k in range(many)]
        self.faults = [0] * many
        self.modes = ["free"] * many
        self.lives = [self.life(k) for k in range(many)]
        for life in self.lives:
            next(life)

    def send(self, node, name, row):
        self.waits[node] = sorted(self.waits[node] + [(name, list(row))], key=lambda frame: frame[0])

    def step(self, flip):
        puts = [next(life) for life in self.lives]
        bit = int(all(puts)) ^ flip
        for life in self.lives:
            life.send(bit)
        return bit

    def life(self, k):
        ones = 3
        while True:
            self.modes[k] = "rest" if ones < 3 else "free"
            bit = yield from one_bit(lambda: 1 if self.due(k, ones) is None else 0)
            own = self.due(k, ones)
            if own is None and bit == 1:
                ones += 1
                continue
            self.modes[k] = "frame"
            if not (yield from self.frame(k, own, bit)):
                yield from self.trouble(k)
            ones = 0

    def due(self, k, ones):
        return self.waits[k][0] if ones >= 3 and self.waits[k] else None

    def frame(self, k, own, bit):
        said = None if own is None else wire_text(own[0], tuple(own[1]))
        text = ""
        while True:
            if said is not None and said[len(text)] != str(bit):
                if bit == 1 or not may_give_way(said, len(text)):
                    return False
                said = None
            text += str(bit)
            if what_is(text) == "wrong":
                return False
            if what_is(text) == "whole":
                return (yield from self.close(k, own if said else None, read(text)))
            bit = yield from one_bit(lambda: 1 if said is None else int(said[len(text)]))

    def close(self, k, own, frame):
        for place in "1?1" "1111111":
            put = 0 if place == "?" and own is None else 1
            bit = yield from one_bit(lambda: put)
            if (place, bit) == ("1", 0):
                return False
            if (place, bit) == ("?", 1) and own is not None:
                return False
        if own is None:
            self.heard[k].append((frame[0], list(frame[1])))
        else:
            self.waits[k].remove(own)
        return True

    def trouble(self, k):
        self.faults[k] += 1
        self.modes[k] = "cry"
        for time in range(6):
            yield from one_bit(lambda: 0)
        self.modes[k] = "dazed"
        last = ""
        while not last.endswith("1" * 8):
            last += str((yield from one_bit(lambda: 1)))
