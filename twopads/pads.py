"""Pads: which ones are known, and both sides' together.

Known pads are a dict by frame and no list, as they may come with a gap between them.
A letter is a list, as it is told: the side, the first frame,
how many are known, how many pads, and these.
"""

LETTER_SIDE = 0
LETTER_FIRST = 1
LETTER_KNOWN = 2
LETTER_PADS = 4


# What all know of a side's pads.
def known_at_first(delay):
    known = {}
    for t in range(delay):
        known[t] = 0
    return known


def learn(known, letter):
    for t, pad in enumerate(letter[LETTER_PADS:], start=letter[LETTER_FIRST]):
        if t not in known:
            known[t] = pad


# How many first frames' pads are known without a gap.
def without_gap(known):
    t = 0
    while t in known:
        t += 1
    return t


def together(pad_0, pad_1):
    return pad_0 + 16 * pad_1
