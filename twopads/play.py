"""A game: two sides, the net between them, and who watches. Each call answers a list of numbers."""

from twopads.machine import PLACES
from twopads.pads import LETTER_SIDE
from twopads.sides import Side
from twopads.watching import Watcher

MOST_DELAY = 6
MOST_AHEAD = 10
MOST_BYTES = 128
MOST_BYTE = 255
MOST_PAD = 15
MOST_FRAMES = 100
MOST_LETTERS = 30
MOST_FAULTS = 10

NOT_AS_TOLD = -1
NO_SUCH_LETTER = -2
NO_SUCH_FRAME = -3
NO_ROOM = -5
TOO_FAR_AHEAD = -6


def within(number, least, most):
    return least <= number and number <= most


def is_side(side):
    return within(side, 0, 1)


def may_begin(delay, ahead, some_bytes):
    if not within(delay, 0, MOST_DELAY) or not within(ahead, 1, MOST_AHEAD):
        return False
    if len(some_bytes) > MOST_BYTES:
        return False
    return all([within(byte, 0, MOST_BYTE) for byte in some_bytes])


def two_sides(delay, some_bytes):
    return [Side(0, delay, some_bytes), Side(1, delay, some_bytes)]


# Where two machines are no longer the same, of the frames that both have; each is told by
# its states ahead of each frame and behind all.
def apart(some_states, other_states):
    frames = min(len(some_states), len(other_states)) - 1
    for t in range(frames + 1):
        if some_states[t] != other_states[t]:
            return [1, t]
    return [0, frames]


# What a line's calls are about.
class Game:
    def __init__(self):
        self.ahead = 1
        self.sides = two_sides(0, [])
        self.letters = []
        self.watcher = Watcher(0, [])

    def begin(self, delay, ahead, some_bytes):
        if not may_begin(delay, ahead, some_bytes):
            return [NOT_AS_TOLD]
        self.ahead = ahead
        self.sides = two_sides(delay, some_bytes)
        self.letters = []
        self.watcher = Watcher(delay, some_bytes)
        return [0]

    def frame(self, side, pad):
        if not is_side(side) or not within(pad, 0, MOST_PAD):
            return [NOT_AS_TOLD]
        player = self.sides[side]
        t = player.frames_run()
        if t >= MOST_FRAMES:
            return [NO_ROOM]
        if t >= player.frames_known() + self.ahead:
            return [TOO_FAR_AHEAD]
        player.tell_pad(pad)
        player.run_next()
        return [t + 1, 1 if player.is_guess(t) else 0]

    def send(self, side):
        if not is_side(side):
            return [NOT_AS_TOLD]
        if len(self.letters) >= MOST_LETTERS:
            return [NO_ROOM]
        letter = self.sides[side].letter()
        self.letters.append(letter)
        return list(letter)

    def has_letter(self, k):
        return within(k, 0, len(self.letters) - 1)

    def hand(self, k, stays):
        if not within(stays, 0, 1):
            return [NOT_AS_TOLD]
        if not self.has_letter(k):
            return [NO_SUCH_LETTER]
        letter = self.letters[k]
        again = self.sides[1 - letter[LETTER_SIDE]].take(letter)
        if stays == 0:
            self.letters.pop(k)
        return [again]

    def lose(self, k):
        if not self.has_letter(k):
            return [NO_SUCH_LETTER]
        self.letters.pop(k)
        return [len(self.letters)]

    def net(self):
        told = [len(self.letters)]
        for letter in self.letters:
            told.extend(letter)
        return told

    def now(self, side):
        if not is_side(side):
            return [NOT_AS_TOLD]
        player = self.sides[side]
        t = player.frames_run()
        return [t, player.mark_ahead(t)]

    def settled(self, side):
        if not is_side(side):
            return [NOT_AS_TOLD]
        player = self.sides[side]
        t = player.frames_settled()
        return [t, player.mark_ahead(t)]

    def state(self, side, t):
        if not is_side(side):
            return [NOT_AS_TOLD]
        player = self.sides[side]
        if not within(t, 0, player.frames_run()):
            return [NO_SUCH_FRAME]
        return list(player.states[t])

    def pads(self, side, t):
        if not is_side(side):
            return [NOT_AS_TOLD]
        player = self.sides[side]
        if not within(t, 0, player.frames_run() - 1):
            return [NO_SUCH_FRAME]
        return [player.own[t], player.used[t], 1 if player.is_guess(t) else 0]

    def fault(self, side, place, byte):
        if not is_side(side) or not within(place, 0, PLACES - 1) or not within(byte, 0, MOST_BYTE):
            return [NOT_AS_TOLD]
        player = self.sides[side]
        if len(player.faults) >= MOST_FAULTS:
            return [NO_ROOM]
        player.tell_fault(place, byte)
        return [player.frames_run()]

    def watch(self, k):
        if not self.has_letter(k):
            return [NO_SUCH_LETTER]
        self.watcher.read(self.letters[k])
        return [len(self.watcher.seen), self.watcher.mark_behind()]

    def film(self):
        return [len(self.watcher.seen)] + self.watcher.seen

    def differ(self, side):
        if not is_side(side):
            return [NOT_AS_TOLD]
        return apart(self.sides[side].states_settled(), self.watcher.states)

    def both(self):
        return apart(self.sides[0].states_settled(), self.sides[1].states_settled())

    def runs(self, side):
        if not is_side(side):
            return [NOT_AS_TOLD]
        return [self.sides[side].run_in_all]
