"""Another way to the same answers, over texts of "0" and "1", and none of it the program's own."""

import itertools
import random
import re

# x^15 and the places at which 17817 has a 1: the divisor of the check, by its long division.
DIVISOR = "1100010110011001"


def text_of(bits):
    return "".join(str(bit) for bit in bits)


def list_of(text):
    return [int(sign) for sign in text]


def check_text(text):
    """The remainder of the long division, done by hand as on paper."""
    rest = list(text + "0" * 15)
    for at in range(len(text)):
        if rest[at] == "1":
            for k, sign in enumerate(DIVISOR):
                rest[at + k] = "0" if rest[at + k] == sign else "1"
    return "".join(rest[len(text):])


def frame_text(name, row):
    text = "0" + format(name, "011b") + format(len(row), "04b")
    text += "".join(format(byte, "08b") for byte in row)
    return text + check_text(text)


def stuffed_text(text):
    """Each first five like ones, from left to right, get their opposite; the search goes on with it."""
    at = 0
    while True:
        found = re.compile("00000|11111").search(text, at)
        if found is None:
            return text
        at = found.end()
        text = text[:at] + ("1" if text[at - 1] == "0" else "0") + text[at:]


def unstuffed_text(text):
    """A run that stands behind five like bits begins with a bit that was put in: it is left out."""
    runs = ["".join(run) for sign, run in itertools.groupby(text)]
    kept = runs[:1]
    for before, run in zip(runs, runs[1:]):
        kept.append(run[1:] if len(before) >= 5 else run)
    return "".join(kept)


def begins_a_frame(text):
    """Whether some frame's stuffed bits begin with these: one is made of them and looked at."""
    plain = unstuffed_text(text)
    head = plain.ljust(16, "0")
    many = int(head[12:16], 2)
    if many > 8:
        return False
    data = plain[16:16 + 8 * many].ljust(8 * many, "0")
    row = [int(data[at:at + 8], 2) for at in range(0, 8 * many, 8)]
    whole = stuffed_text(frame_text(int(head[1:12], 2), row))
    return whole.startswith(text)


def wrong_place(text):
    """The length of the longest beginning that a frame has; each shorter one has a frame, too."""
    good, bad = 0, len(text) + 1
    while bad - good > 1:
        middle = (good + bad) // 2
        if begins_a_frame(text[:middle]):
            good = middle
        else:
            bad = middle
    return good


def some_frames():
    """Frames of every length, of extreme and of mixed names and bytes; the same ones each time."""
    source = random.Random(17817)
    frames = []
    for many in range(9):
        for name in (0, 1, 1024, 1365, 2047):
            for byte in (0, 1, 85, 128, 255):
                frames.append((name, [byte] * many))
        for k in range(20):
            row = [source.randrange(256) for j in range(many)]
            frames.append((source.randrange(2048), row))
    return frames
