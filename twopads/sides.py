"""A side: its pads, what it knows of the other's, and the frames that it ran.

A letter is a list, as it is told: the side, the first frame,
how many are known, how many pads, and these.
"""

from twopads.machine import behind_frame, loaded, mark

MOST_PADS_TOLD = 6
LETTER_PADS = 4


# One of the two who play, with a machine of its own.
class Side:
    def __init__(self, number, delay, some_bytes):
        self.number = number
        self.own = [0] * delay
        # A dict by frame and no list, as pads may come with a gap between them.
        self.known = {}
        for t in range(delay):
            self.known[t] = 0
        # How many of its own first pads the other is known to know.
        self.reached = delay
        # The other's pads that its frames were run with.
        self.used = []
        # One more than frames were run: the machine ahead of each, and behind all.
        self.states = [loaded(some_bytes)]

    def frames_run(self):
        return len(self.used)

    # How many first frames' pads of the other's are known without a gap.
    def frames_known(self):
        t = 0
        while t in self.known:
            t += 1
        return t

    def frames_settled(self):
        return min(self.frames_run(), self.frames_known())

    def mark_ahead(self, t):
        return mark(self.states[t])

    def tell_pad(self, pad):
        self.own.append(pad)

    def is_guess(self, t):
        return t not in self.known

    # What is to be used of the other's; the frames up to t have to be right.
    def others_pad(self, t):
        if t in self.known:
            return self.known[t]
        if t == 0:
            return 0
        return self.used[t - 1]

    def together(self, t, others):
        if self.number == 0:
            return self.own[t] + 16 * others
        return others + 16 * self.own[t]

    def run_next(self):
        t = self.frames_run()
        others = self.others_pad(t)
        self.states.append(behind_frame(self.states[t], self.together(t, others)))
        self.used.append(others)

    def letter(self):
        pads = self.own[self.reached:self.reached + MOST_PADS_TOLD]
        return [self.number, self.reached, self.frames_known(), len(pads)] + pads

    # Read the other's letter; give back how many frames are run again.
    def take(self, letter):
        self.reached = max(self.reached, letter[2])
        for t, pad in enumerate(letter[LETTER_PADS:], start=letter[1]):
            if t not in self.known:
                self.known[t] = pad
        return self.run_again(self.first_wrong())

    # The first frame that was run with another pad than it should; or how many were run.
    def first_wrong(self):
        t = 0
        while t < self.frames_run() and self.used[t] == self.others_pad(t):
            t += 1
        return t

    def run_again(self, first):
        count = self.frames_run() - first
        self.used = self.used[:first]
        self.states = self.states[:first + 1]
        for again in range(count):
            self.run_next()
        return count
