"""Many games drawn by a fixed seed, beside a slow model that works everything out anew for each answer."""

import random
import unittest

from helper import NUMBER_OF_CALL, coded, mark_of, play
from twopads.games import answers


def frame_behind(numbers, pad):
    a, x, place, z, c = numbers[:5]
    m = numbers[5:]
    m[127] = pad
    for left in range(300, 0, -1):
        which, n = m[place] & 15, m[(place + 1) & 127]
        at, at_x = n & 127, (n + x) & 127
        place = (place + 2) & 127
        if which == 0:
            break
        old = a
        a = {1: n, 2: m[at], 4: m[at_x], 8: a + m[at], 9: a - m[at], 10: a & m[at], 11: a ^ m[at]}.get(which, a)
        x = {6: n, 7: x + n}.get(which, x)
        if which == 8:
            c = a >> 8
        if which == 9:
            c = int(m[at] > old)
        a, x = a & 255, x & 255
        if which in (1, 2, 4, 8, 9, 10, 11):
            z = int(a == 0)
        if which in (6, 7):
            z = int(x == 0)
        if which == 3:
            m[at] = a
        if which == 5:
            m[at_x] = a
        if {12: 1, 13: z, 14: 1 - z, 15: c}.get(which, 0):
            place = at
    return [a, x, place, z, c] + m


class Model:
    """Keeps only what was pressed, what came, what was read and which faults were told; nothing of machines."""

    def __init__(self):
        self.begin(0, 1, [])

    def begin(self, delay, ahead, some_bytes):
        if delay not in range(7) or ahead not in range(1, 11) or len(some_bytes) > 128:
            return [-1]
        if [byte for byte in some_bytes if byte not in range(256)]:
            return [-1]
        self.delay, self.ahead, self.bytes = delay, ahead, some_bytes
        self.pads = [[0] * delay, [0] * delay]
        self.came = [[], []]
        self.letters = []
        self.was_read = []
        self.faults = [[], []]
        self.again = [0, 0]
        return [0]

    def ran(self, side):
        return len(self.pads[side]) - self.delay

    def knows(self, side):
        return max([self.delay] + [letter[1] + letter[3] for letter in self.came[side]])

    def used(self, side):
        others = self.pads[1 - side][:self.knows(side)][:self.ran(side)]
        while len(others) < self.ran(side):
            others.append(others[-1] if others else 0)
        return others

    def run(self, pads, faults):
        """The machine ahead of each of these frames, and behind all."""
        states = [[0, 0, 0, 1, 0] + self.bytes + [0] * (128 - len(self.bytes))]
        for t, pad in enumerate(pads):
            begun = list(states[-1])
            for frame, place, byte in faults:
                begun[5 + place] = byte if frame == t else begun[5 + place]
            states.append(frame_behind(begun, pad))
        return states

    def states(self, side):
        both = zip(self.pads[side], self.used(side))
        return self.run([own + 16 * other if side == 0 else other + 16 * own for own, other in both], self.faults[side])

    def is_settled(self, side):
        return min(self.ran(side), self.knows(side))

    def seen_pads(self):
        pads = []
        for side in (0, 1):
            told = {t: 0 for t in range(self.delay)}
            for letter in self.was_read:
                if letter[0] == side:
                    told.update(enumerate(letter[4:], letter[1]))
            first_gap = min(t for t in range(200) if t not in told)
            pads.append([told[t] for t in range(first_gap)])
        return [one + 16 * other for one, other in zip(*pads)]

    def marked(self, side, frames):
        return [frames, mark_of(self.states(side)[frames])]

    def frame(self, side, pad):
        if side not in (0, 1) or pad not in range(16):
            return [-1]
        if self.ran(side) >= 100:
            return [-5]
        if self.ran(side) >= self.knows(side) + self.ahead:
            return [-6]
        self.pads[side].append(pad)
        return [self.ran(side), int(self.ran(side) > self.knows(side))]

    def send(self, side):
        if side not in (0, 1):
            return [-1]
        if len(self.letters) == 30:
            return [-5]
        first = max([self.delay] + [letter[2] for letter in self.came[side]])
        pads = self.pads[side][first:][:6]
        self.letters.append([side, first, self.knows(side), len(pads)] + pads)
        return self.letters[-1]

    def hand(self, k, stays):
        if stays not in (0, 1):
            return [-1]
        if k not in range(len(self.letters)):
            return [-2]
        side = 1 - self.letters[k][0]
        before = self.used(side)
        self.came[side].append(self.letters[k])
        if stays == 0:
            del self.letters[k]
        same = [one == other for one, other in zip(before, self.used(side))]
        again = len(same) - same.index(False) if False in same else 0
        self.again[side] += again
        return [again]

    def lose(self, k):
        if k not in range(len(self.letters)):
            return [-2]
        del self.letters[k]
        return [len(self.letters)]

    def net(self):
        return [len(self.letters)] + sum(self.letters, [])

    def now(self, side):
        if side not in (0, 1):
            return [-1]
        return self.marked(side, self.ran(side))

    def settled(self, side):
        if side not in (0, 1):
            return [-1]
        return self.marked(side, self.is_settled(side))

    def state(self, side, t):
        if side not in (0, 1):
            return [-1]
        return self.states(side)[t] if t in range(self.ran(side) + 1) else [-3]

    def pads_of(self, side, t):
        if side not in (0, 1):
            return [-1]
        if t not in range(self.ran(side)):
            return [-3]
        return [self.pads[side][t], self.used(side)[t], int(t >= self.knows(side))]

    def fault(self, side, place, byte):
        if side not in (0, 1) or place not in range(128) or byte not in range(256):
            return [-1]
        if len(self.faults[side]) == 10:
            return [-5]
        self.faults[side].append((self.ran(side), place, byte))
        return [self.ran(side)]

    def watch(self, k):
        if k not in range(len(self.letters)):
            return [-2]
        self.was_read.append(self.letters[k])
        pads = self.seen_pads()
        return [len(pads), mark_of(self.run(pads, [])[-1])]

    def film(self):
        return [len(self.seen_pads())] + self.seen_pads()

    def apart(self, some, others, frames):
        other = [t for t in range(frames + 1) if some[t] != others[t]]
        return [1, other[0]] if other else [0, frames]

    def differ(self, side):
        if side not in (0, 1):
            return [-1]
        pads = self.seen_pads()
        return self.apart(self.states(side), self.run(pads, []), min(len(pads), self.is_settled(side)))

    def both(self):
        return self.apart(self.states(0), self.states(1), min(self.is_settled(0), self.is_settled(1)))

    def runs(self, side):
        if side not in (0, 1):
            return [-1]
        return [self.ran(side) + self.again[side]]


def drawn_begin(draw):
    if draw.random() < 0.1:
        return ("begin", draw.choice((-1, 0, 6, 7)), draw.choice((0, 1, 10, 11)),
                [draw.choice((-1, 0, 255, 256, 7)) for at in range(draw.choice((0, 1, 3, 128, 129, 200)))])
    some_bytes = [draw.randrange(256) for at in range(draw.choice((4, 20, 127, 128)))]
    return ("begin", draw.choice((0, 0, 1, 2, 6)), draw.choice((1, 2, 5, 10)), some_bytes)


def drawn_call(draw):
    side = draw.choice((0, 1)) if draw.random() < 0.97 else draw.choice((-1, 2))
    pad = draw.choice((0, 0, 1, 7, 15)) if draw.random() < 0.97 else draw.choice((-1, 16))
    k = draw.choice((0, 0, 0, 1, 1, 2, 3, 5, -1))
    stays = draw.choice((0, 0, 0, 0, 1, 1, 2))
    t = draw.choice((0, 0, 1, 1, 2, 3, 4, 6, 9, -1))
    fault = ("fault", side, draw.choice((0, 1, 3, 40, 64, 100, 126, 127, 127, -1, 128)),
             draw.choice((0, 1, 2, 77, 128, 255, -1, 256)))
    seen = [("watch", k)] * 5 + [("film",), fault]
    looked = [("net",), ("now", side), ("settled", side), ("state", side, t), ("pads", side, t), ("pads", side, t),
              ("differ", side), ("differ", side), ("both",), ("both",), ("runs", side)]
    return draw.choice([("frame", side, pad)] * 14 + [("send", side)] * 6 + [("hand", k, stays)] * 7 + [("lose", k)]
                       + seen + looked)


def drawn_game(draw, count):
    calls = [drawn_begin(draw)]
    while len(calls) < count:
        calls.append(drawn_begin(draw) if draw.random() < 0.01 else drawn_call(draw))
    return calls


def answer_of(model, call):
    return list(getattr(model, "pads_of" if call[0] == "pads" else call[0])(*call[1:]))


def lively_game(draw, count):
    """A game in which letters are there and come, so that much is settled and seen; and what the model answers."""
    model = Model()
    calls = [("begin", draw.choice((0, 0, 1, 3)), draw.choice((3, 6, 10)), [draw.randrange(256) for at in range(128)])]
    given = [answer_of(model, calls[0])]
    while len(calls) < count:
        side = draw.choice((0, 1))
        t = draw.randrange(model.ran(side) + 1)
        step = [("frame", side, draw.randrange(16))] * 6 + [("send", side)] * 3
        step += [("fault", side, draw.randrange(128), draw.randrange(256))] if draw.random() < 0.3 else []
        step += [("state", side, t), ("pads", side, t), ("differ", side), ("both",), ("runs", side), ("film",)]
        if model.letters:
            k = draw.randrange(len(model.letters))
            step += [("hand", k, draw.choice((0, 0, 1)))] * 4 + [("watch", k)] * 4
        calls.append(draw.choice(step))
        given.append(answer_of(model, calls[-1]))
    return calls, given


class Drawn(unittest.TestCase):
    def check(self, calls):
        model = Model()
        self.assertEqual(play(*calls), [answer_of(model, call) for call in calls], calls)

    def test_games_as_long_as_they_may_be(self):
        draw = random.Random(20)
        for game in range(300):
            self.check(drawn_game(draw, 60))

    def test_longer_games(self):
        draw = random.Random(21)
        for game in range(10):
            self.check(drawn_game(draw, 300))

    def test_lively_games(self):
        draw = random.Random(24)
        found = {name: set() for name in NUMBER_OF_CALL}
        for game in range(300):
            calls, expected = lively_game(draw, 60)
            self.assertEqual(play(*calls), expected, calls)
            for call, numbers in zip(calls, expected):
                found[call[0]].add(tuple(numbers))
        # The games are such that there is something to find.
        for name in ("differ", "both"):
            for t in range(1, 4):
                self.assertLessEqual({(0, t), (1, t)}, found[name], name)

    def test_longer_lively_games(self):
        draw = random.Random(25)
        for game in range(10):
            calls, expected = lively_game(draw, 300)
            self.assertEqual(play(*calls), expected, calls)

    def test_both_see_the_same_game_whatever_becomes_of_letters(self):
        draw = random.Random(22)
        for game in range(100):
            frames = draw.randrange(1, 11)
            calls = [("frame", side, draw.randrange(16)) for side in (0, 1) for t in range(frames)]
            calls += [("send", draw.choice((0, 1))) for t in range(10)]
            calls += [("hand", draw.randrange(5), draw.choice((0, 1))) for t in range(10)] + [("lose", 0)] * 5
            draw.shuffle(calls)
            calls.insert(0, ("begin", draw.randrange(7), 10, [draw.randrange(256) for t in range(128)]))
            calls += [("lose", 0)] * 10 + [("send", 0), ("hand", 0, 0), ("send", 1), ("hand", 0, 0)] * 3
            given = play(*calls, ("now", 0), ("now", 1), ("settled", 0), ("settled", 1))
            self.assertEqual(given[-4][0], frames)
            self.assertEqual(given[-4:], [given[-4]] * 4)

    def test_who_reads_every_letter_sees_it_too(self):
        draw = random.Random(26)
        for game in range(100):
            frames, delay = draw.randrange(1, 11), draw.randrange(7)
            pads = [[draw.randrange(16) for t in range(frames)] for side in (0, 1)]
            calls = [("begin", delay, 10, [draw.randrange(256) for t in range(128)])]
            calls += [("frame", 0, pad) for pad in pads[0]] + [("frame", 1, pad) for pad in pads[1]]
            for side in (0, 1) * 3:
                # One that is lost, and one that comes twice.
                calls += [("send", side), ("watch", 0), ("lose", 0)] if draw.random() < 0.3 else []
                calls += [("send", side), ("watch", 0), ("hand", 0, 1), ("hand", 0, 0)]
            film = [0] * delay + [one + 16 * other for one, other in zip(*pads)]
            given = play(*calls, ("film",), ("differ", 0), ("differ", 1), ("both",))
            self.assertEqual(given[-4:], [[len(film)] + film] + [[0, frames]] * 3)

    def test_the_same_list_gives_the_same(self):
        draw = random.Random(23)
        numbers = coded(drawn_game(draw, 60))
        self.assertEqual(answers(numbers), answers(numbers))


if __name__ == "__main__":
    unittest.main()
