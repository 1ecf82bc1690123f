"""Who watches: the pads that letters told, and the game that these make."""

from twopads.machine import behind_frame, loaded, mark
from twopads.pads import LETTER_SIDE, known_at_first, learn, together, without_gap


# The third one, who reads letters along and has no faults.
class Watcher:
    def __init__(self, delay, some_bytes):
        # What is known of each side's pads.
        self.told = [known_at_first(delay), known_at_first(delay)]
        # The film: of each frame that is seen both sides' pads, together.
        self.seen = []
        # One more than frames are seen: the machine ahead of each, and behind all.
        self.states = [loaded(some_bytes)]
        self.see_on()

    def read(self, letter):
        learn(self.told[letter[LETTER_SIDE]], letter)
        self.see_on()

    # What is seen stays as it is, for what is known already is passed over: only new frames are run.
    def see_on(self):
        count = min(without_gap(self.told[0]), without_gap(self.told[1]))
        for t in range(len(self.seen), count):
            pad = together(self.told[0][t], self.told[1][t])
            self.states.append(behind_frame(self.states[t], pad))
            self.seen.append(pad)

    def mark_behind(self):
        return mark(self.states[-1])
