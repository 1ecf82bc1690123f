"""A side: its pads, what it knows of the other's, its faults, and the frames that it ran."""

from twopads.machine import FIRST_BYTE, behind_frame, loaded, mark
from twopads.pads import LETTER_KNOWN, known_at_first, learn, together, without_gap

MOST_PADS_TOLD = 6


# One of the two who play, with a machine of its own.
class Side:
    def __init__(self, number, delay, some_bytes):
        self.number = number
        self.own = [0] * delay
        self.known = known_at_first(delay)
        # How many of its own first pads the other is known to know.
        self.reached = delay
        # The other's pads that its frames were run with.
        self.used = []
        # One more than frames were run: the machine ahead of each, and behind all.
        self.states = [loaded(some_bytes)]
        # A frame, a place and a byte each, in the order in which they were told.
        self.faults = []
        self.run_in_all = 0

    def frames_run(self):
        return len(self.used)

    def frames_known(self):
        return without_gap(self.known)

    def frames_settled(self):
        return min(self.frames_run(), self.frames_known())

    # The machine ahead of each frame that is settled, and behind all of these.
    def states_settled(self):
        return self.states[:self.frames_settled() + 1]

    def mark_ahead(self, t):
        return mark(self.states[t])

    def tell_pad(self, pad):
        self.own.append(pad)

    def tell_fault(self, place, byte):
        self.faults.append((self.frames_run(), place, byte))

    def is_guess(self, t):
        return t not in self.known

    # What is to be used of the other's; the frames up to t have to be right.
    def others_pad(self, t):
        if t in self.known:
            return self.known[t]
        if t == 0:
            return 0
        return self.used[t - 1]

    def pads_together(self, t, others):
        if self.number == 0:
            return together(self.own[t], others)
        return together(others, self.own[t])

    # A copy, as the state ahead of a frame is kept without the frame's faults.
    def state_with_faults(self, t):
        numbers = list(self.states[t])
        for frame, place, byte in self.faults:
            if frame == t:
                numbers[FIRST_BYTE + place] = byte
        return numbers

    def run_next(self):
        t = self.frames_run()
        others = self.others_pad(t)
        self.states.append(behind_frame(self.state_with_faults(t), self.pads_together(t, others)))
        self.used.append(others)
        self.run_in_all += 1

    def letter(self):
        pads = self.own[self.reached:self.reached + MOST_PADS_TOLD]
        return [self.number, self.reached, self.frames_known(), len(pads)] + pads

    # Read the other's letter; give back how many frames are run again.
    def take(self, letter):
        self.reached = max(self.reached, letter[LETTER_KNOWN])
        learn(self.known, letter)
        return self.run_again(self.first_wrong())

    # The first frame that was run with another pad than it should; or how many were run.
    def first_wrong(self):
        t = 0
        while t < self.frames_run() and self.used[t] == self.others_pad(t):
            t += 1
        return t

    def run_again(self, first):
        count = self.frames_run() - first
        self.used = self.used[:first]
        self.states = self.states[:first + 1]
        for again in range(count):
            self.run_next()
        return count
