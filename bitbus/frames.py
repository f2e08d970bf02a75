"""Frames: their bits, the check, the stuffed bits, and what these are read to."""

from bitbus.errors import BadBits, BadFrame

HIGHEST_NAME = 2047
HIGHEST_BYTE = 255
MOST_BYTES = 8

NAME_BITS = 11
COUNT_BITS = 4
BYTE_BITS = 8
CHECK_BITS = 15
CHECK_TURNS = 17817
CHECK_HIGHEST = 32767
MOST_LIKE_BITS = 5

NAME_AT = 1
COUNT_AT = 12
ROW_AT = 16


def in_bits(number, many):
    return [(number >> (many - 1 - k)) & 1 for k in range(many)]


def number_of(bits):
    number = 0
    for bit in bits:
        number = number * 2 + bit
    return number


def check_of(bits):
    check = 0
    for bit in bits:
        fallen = check >> (CHECK_BITS - 1)
        check = (check << 1) & CHECK_HIGHEST
        if fallen != bit:
            check = check ^ CHECK_TURNS
    return in_bits(check, CHECK_BITS)


def refuse_bad_frame(name, row):
    if name < 0 or name > HIGHEST_NAME:
        raise BadFrame(f"no frame has the name {name}")
    if len(row) > MOST_BYTES:
        raise BadFrame(f"a frame has at most {MOST_BYTES} bytes")
    for byte in row:
        if byte < 0 or byte > HIGHEST_BYTE:
            raise BadFrame(f"{byte} is not a byte")


def bits_of(name, row):
    refuse_bad_frame(name, row)
    bits = [0] + in_bits(name, NAME_BITS) + in_bits(len(row), COUNT_BITS)
    for byte in row:
        bits.extend(in_bits(byte, BYTE_BITS))
    return bits + check_of(bits)


# Stuffed bits never hold six like ones, so the last five alone tell whether one is to be put in.
def is_one_due(wire):
    return wire[-MOST_LIKE_BITS:] in ([0] * MOST_LIKE_BITS, [1] * MOST_LIKE_BITS)


def stuffed(bits):
    wire = []
    for bit in bits:
        wire.append(bit)
        if is_one_due(wire):
            wire.append(1 - bit)
    return wire


def head_choices(plain):
    if len(plain) == 0:
        return (0,)
    # No count but eight begins with a 1, so a second 1 is wrong at once, not at the count's end.
    if len(plain) > COUNT_AT and plain[COUNT_AT] == 1:
        return (0,)
    return (0, 1)


def check_place(plain):
    return ROW_AT + BYTE_BITS * number_of(plain[COUNT_AT:ROW_AT])


def plain_choices(plain):
    if len(plain) < ROW_AT:
        return head_choices(plain)
    check_at = check_place(plain)
    if len(plain) < check_at:
        return (0, 1)
    if len(plain) == check_at + CHECK_BITS:
        return ()
    return (check_of(plain[:check_at])[len(plain) - check_at],)


# Each choice leads on to some frame: the bits that frames have behind those of wire are just
# these, and there is none where the frame is over. In plain are the bits of wire not put in.
def choices_behind(wire, plain):
    if is_one_due(wire):
        return (1 - wire[-1],)
    return plain_choices(plain)


def parts_of(plain):
    name = number_of(plain[NAME_AT:COUNT_AT])
    row = [number_of(plain[at:at + BYTE_BITS]) for at in range(ROW_AT, check_place(plain), BYTE_BITS)]
    return (name, row)


class Reading:
    def __init__(self):
        self.wire = []
        self.plain = []
        self.choices = choices_behind([], [])

    def take(self, bit):
        if not is_one_due(self.wire):
            self.plain.append(bit)
        self.wire.append(bit)
        self.choices = choices_behind(self.wire, self.plain)

    def is_over(self):
        return self.choices == ()

    # Whether the next bit is one of the name, and not one that is put in between those.
    def is_at_name(self):
        if is_one_due(self.wire):
            return False
        return len(self.plain) >= NAME_AT and len(self.plain) < COUNT_AT


def frame_of(bits):
    reading = Reading()
    for bit in bits:
        if bit not in reading.choices:
            raise BadBits(len(reading.wire))
        reading.take(bit)
    if not reading.is_over():
        raise BadBits(len(reading.wire))
    return parts_of(reading.plain)
