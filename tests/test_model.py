"""Many games drawn by a fixed seed, beside a slow model that works everything out anew for each answer."""

import random
import unittest

from helper import coded, mark_of, play
from twopads.games import answers


def frame_behind(numbers, pad):
    a, x, place, z, c = numbers[:5]
    m = numbers[5:]
    m[127] = pad
    for left in range(300, 0, -1):
        which, n = m[place] & 15, m[(place + 1) & 127]
        at, at_x = n & 127, (n + x) & 127
        place = (place + 2) & 127
        if which == 0:
            break
        old = a
        a = {1: n, 2: m[at], 4: m[at_x], 8: a + m[at], 9: a - m[at], 10: a & m[at], 11: a ^ m[at]}.get(which, a)
        x = {6: n, 7: x + n}.get(which, x)
        if which == 8:
            c = a >> 8
        if which == 9:
            c = int(m[at] > old)
        a, x = a & 255, x & 255
        if which in (1, 2, 4, 8, 9, 10, 11):
            z = int(a == 0)
        if which in (6, 7):
            z = int(x == 0)
        if which == 3:
            m[at] = a
        if which == 5:
            m[at_x] = a
        if {12: 1, 13: z, 14: 1 - z, 15: c}.get(which, 0):
            place = at
    return [a, x, place, z, c] + m


class Model:
    """Keeps only what was pressed and what came; nothing of machines."""

    def __init__(self):
        self.begin(0, 1, [])

    def begin(self, delay, ahead, some_bytes):
        if delay not in range(7) or ahead not in range(1, 11) or len(some_bytes) > 128:
            return [-1]
        if [byte for byte in some_bytes if byte not in range(256)]:
            return [-1]
        self.delay, self.ahead, self.bytes = delay, ahead, some_bytes
        self.pads = [[0] * delay, [0] * delay]
        self.came = [[], []]
        self.letters = []
        return [0]

    def ran(self, side):
        return len(self.pads[side]) - self.delay

    def knows(self, side):
        return max([self.delay] + [letter[1] + letter[3] for letter in self.came[side]])

    def used(self, side):
        others = self.pads[1 - side][:self.knows(side)][:self.ran(side)]
        while len(others) < self.ran(side):
            others.append(others[-1] if others else 0)
        return others

    def marked(self, side, frames):
        numbers = [0, 0, 0, 1, 0] + self.bytes + [0] * (128 - len(self.bytes))
        for own, other in list(zip(self.pads[side], self.used(side)))[:frames]:
            numbers = frame_behind(numbers, own + 16 * other if side == 0 else other + 16 * own)
        return [frames, mark_of(numbers)]

    def frame(self, side, pad):
        if side not in (0, 1) or pad not in range(16):
            return [-1]
        if self.ran(side) >= 100:
            return [-5]
        if self.ran(side) >= self.knows(side) + self.ahead:
            return [-6]
        self.pads[side].append(pad)
        return [self.ran(side), int(self.ran(side) > self.knows(side))]

    def send(self, side):
        if side not in (0, 1):
            return [-1]
        if len(self.letters) == 30:
            return [-5]
        first = max([self.delay] + [letter[2] for letter in self.came[side]])
        pads = self.pads[side][first:][:6]
        self.letters.append([side, first, self.knows(side), len(pads)] + pads)
        return self.letters[-1]

    def hand(self, k, stays):
        if stays not in (0, 1):
            return [-1]
        if k not in range(len(self.letters)):
            return [-2]
        side = 1 - self.letters[k][0]
        before = self.used(side)
        self.came[side].append(self.letters[k])
        if stays == 0:
            del self.letters[k]
        same = [one == other for one, other in zip(before, self.used(side))]
        return [len(same) - same.index(False) if False in same else 0]

    def lose(self, k):
        if k not in range(len(self.letters)):
            return [-2]
        del self.letters[k]
        return [len(self.letters)]

    def net(self):
        return [len(self.letters)] + sum(self.letters, [])

    def now(self, side):
        if side not in (0, 1):
            return [-1]
        return self.marked(side, self.ran(side))

    def settled(self, side):
        if side not in (0, 1):
            return [-1]
        return self.marked(side, min(self.ran(side), self.knows(side)))


def drawn_begin(draw):
    if draw.random() < 0.1:
        return ("begin", draw.choice((-1, 0, 6, 7)), draw.choice((0, 1, 10, 11)),
                [draw.choice((-1, 0, 255, 256, 7)) for at in range(draw.choice((0, 1, 3, 128, 129, 200)))])
    some_bytes = [draw.randrange(256) for at in range(draw.choice((4, 20, 127, 128)))]
    return ("begin", draw.choice((0, 0, 1, 2, 6)), draw.choice((1, 2, 5, 10)), some_bytes)


def drawn_call(draw):
    side = draw.choice((0, 1)) if draw.random() < 0.97 else draw.choice((-1, 2))
    pad = draw.choice((0, 0, 1, 7, 15)) if draw.random() < 0.97 else draw.choice((-1, 16))
    k = draw.choice((0, 0, 0, 1, 1, 2, 3, 5, -1))
    stays = draw.choice((0, 0, 0, 0, 1, 1, 2))
    return draw.choice((
        ("frame", side, pad), ("frame", side, pad), ("frame", side, pad), ("frame", side, pad),
        ("send", side), ("send", side), ("hand", k, stays), ("hand", k, stays), ("lose", k),
        ("net",), ("now", side), ("settled", side),
    ))


def drawn_game(draw, count):
    calls = [drawn_begin(draw)]
    while len(calls) < count:
        calls.append(drawn_begin(draw) if draw.random() < 0.01 else drawn_call(draw))
    return calls


class Drawn(unittest.TestCase):
    def check(self, calls):
        model = Model()
        expected = [list(getattr(model, call[0])(*call[1:])) for call in calls]
        self.assertEqual(play(*calls), expected, calls)

    def test_games_as_long_as_they_may_be(self):
        draw = random.Random(20)
        for game in range(300):
            self.check(drawn_game(draw, 60))

    def test_longer_games(self):
        draw = random.Random(21)
        for game in range(10):
            self.check(drawn_game(draw, 300))

    def test_both_see_the_same_game_whatever_becomes_of_letters(self):
        draw = random.Random(22)
        for game in range(100):
            frames = draw.randrange(1, 11)
            calls = [("frame", side, draw.randrange(16)) for side in (0, 1) for t in range(frames)]
            calls += [("send", draw.choice((0, 1))) for t in range(10)]
            calls += [("hand", draw.randrange(5), draw.choice((0, 1))) for t in range(10)] + [("lose", 0)] * 5
            draw.shuffle(calls)
            calls.insert(0, ("begin", draw.randrange(7), 10, [draw.randrange(256) for t in range(128)]))
            calls += [("lose", 0)] * 10 + [("send", 0), ("hand", 0, 0), ("send", 1), ("hand", 0, 0)] * 3
            given = play(*calls, ("now", 0), ("now", 1), ("settled", 0), ("settled", 1))
            self.assertEqual(given[-4][0], frames)
            self.assertEqual(given[-4:], [given[-4]] * 4)

    def test_the_same_list_gives_the_same(self):
        draw = random.Random(23)
        numbers = coded(drawn_game(draw, 60))
        self.assertEqual(answers(numbers), answers(numbers))


if __name__ == "__main__":
    unittest.main()
