"""Promise 2, of watch; who watches, and the film."""

import itertools
import unittest

from helper import SUMMING, frames, handed_on, last, machine, mark_of, play, summed

BEGUN = ("begin", 0, 10, SUMMING)

# Both sides have run three frames; side 0's letter lies on the net, then side 1's.
SENT = [BEGUN] + frames(0, [1, 2, 3]) + frames(1, [4, 5, 6]) + [("send", 0), ("send", 1)]
FILM = [65, 82, 99]

# What shows whether a side knows, or has run, anything else.
LOOK = [("net",), ("now", 0), ("now", 1), ("settled", 0), ("settled", 1), ("pads", 0, 0), ("pads", 1, 0),
        ("runs", 0), ("runs", 1), ("both",)]


class WatchRefused(unittest.TestCase):
    def test_no_letter_k(self):
        for k in (2, -1, 3, -2, 1000000, -1000000):
            self.assertEqual(play(*SENT, ("watch", k), ("film",))[-2:], [[-2], [0]], k)

    def test_an_empty_net(self):
        self.assertEqual(play(("watch", 0), ("watch", -1), ("film",)), [[-2], [-2], [0]])
        self.assertEqual(last(*SENT, ("lose", 0), ("lose", 0), ("watch", 0)), [-2])

    def test_every_letter_that_is_there(self):
        self.assertEqual(play(*SENT, ("watch", 0), ("watch", 1))[-2:], [[0, summed([])], [3, summed(FILM)]])

    def test_nothing_changes(self):
        calls = SENT + [("watch", 0)]
        given = play(*calls, ("watch", 2), ("watch", -1), *LOOK, ("film",), ("watch", 1))
        self.assertEqual(given[len(calls) + 2:], play(*calls, *LOOK, ("film",), ("watch", 1))[len(calls):])


class Watch(unittest.TestCase):
    def seen(self, calls):
        """How many frames are seen behind these calls, of which the last is a watch; and film agrees."""
        given = play(*calls, ("film",))
        self.assertEqual(given[-1][0], given[-2][0])
        self.assertEqual(given[-1][0], len(given[-1]) - 1)
        self.assertEqual(given[-2][1], summed(given[-1][1:]))
        return given[-1][1:]

    def test_nothing_read(self):
        self.assertEqual(last(("film",)), [0])
        self.assertEqual(last(*SENT, ("film",)), [0])
        self.assertEqual(last(*SENT, ("hand", 0, 0), ("hand", 0, 0), ("film",)), [0])

    def test_letters_of_one_side_only(self):
        for k in (0, 1):
            self.assertEqual(self.seen(SENT + [("watch", k)]), [])
            self.assertEqual(self.seen(SENT + [("watch", k)] * 3), [])

    def test_letters_of_both(self):
        self.assertEqual(self.seen(SENT + [("watch", 0), ("watch", 1)]), FILM)
        self.assertEqual(self.seen(SENT + [("watch", 1), ("watch", 0)]), FILM)

    def test_as_many_as_both_sides_pads_are_known(self):
        for count in range(4):
            for side in (0, 1):
                calls = [BEGUN] + frames(1 - side, [7] * 3) + frames(side, [9] * count) + [("send", 0), ("send", 1)]
                pad = 7 + 16 * 9 if side == 1 else 9 + 16 * 7
                self.assertEqual(self.seen(calls + [("watch", 0), ("watch", 1)]), [pad] * count)

    def test_letters_without_pads(self):
        self.assertEqual(self.seen([BEGUN, ("send", 0), ("send", 1), ("watch", 0), ("watch", 1)]), [])

    def test_letters_read_twice(self):
        calls = SENT + [("watch", 0), ("watch", 0), ("watch", 1), ("watch", 1), ("watch", 0)]
        self.assertEqual(self.seen(calls), FILM)

    def test_letters_read_late(self):
        calls = SENT + frames(0, [7, 8]) + frames(1, [9, 9]) + [("send", 0), ("send", 1)]
        self.assertEqual(self.seen(calls + [("watch", 0), ("watch", 1)]), FILM)
        self.assertEqual(self.seen(calls + [("watch", 2), ("watch", 1)]), FILM)
        self.assertEqual(self.seen(calls + [("watch", 2), ("watch", 3)]), FILM + [151, 152])
        self.assertEqual(self.seen(calls + [("watch", 2), ("watch", 3), ("watch", 0), ("watch", 1)]), FILM + [151, 152])

    def test_letters_read_in_any_order(self):
        calls = [BEGUN]
        for t in range(3):
            calls += frames(0, [t + 1]) + frames(1, [t + 4]) + [("send", 0), ("send", 1)]
        told = {0: (0, 1), 1: (1, 1), 2: (0, 2), 3: (1, 2), 4: (0, 3), 5: (1, 3)}
        for order in itertools.permutations(range(6)):
            most = [0, 0]
            given = play(*calls, *[("watch", k) for k in order], ("film",))
            for k, answer in zip(order, given[len(calls):]):
                side, count = told[k]
                most[side] = max(most[side], count)
                self.assertEqual(answer, [min(most), summed(FILM[:min(most)])], order)
            self.assertEqual(given[-1], [3] + FILM)

    def test_a_gap_in_what_is_known(self):
        # Side 0's first letter comes, which side 0 learns; so its second begins with frame 2.
        calls = [BEGUN] + frames(0, [1, 2]) + [("send", 0), ("hand", 0, 1), ("send", 1), ("hand", 1, 0)]
        calls += frames(0, [3, 4]) + frames(1, [5, 6, 7, 8]) + [("send", 0), ("send", 1)]
        self.assertEqual(last(*calls, ("net",)), [3, 0, 0, 0, 2, 1, 2, 0, 2, 0, 2, 3, 4, 1, 0, 2, 4, 5, 6, 7, 8])
        self.assertEqual(self.seen(calls + [("watch", 1), ("watch", 2)]), [])
        film = [81, 98, 115, 132]
        self.assertEqual(self.seen(calls + [("watch", 1), ("watch", 2), ("watch", 0)]), film)
        self.assertEqual(self.seen(calls + [("watch", 0), ("watch", 2)]), film[:2])
        self.assertEqual(self.seen(calls + [("watch", 2), ("watch", 0), ("watch", 1)]), film)

    def test_a_gap_on_the_other_side(self):
        calls = [BEGUN] + frames(1, [1]) + [("send", 1), ("hand", 0, 1), ("send", 0), ("hand", 1, 0)]
        calls += frames(1, [2]) + frames(0, [3, 4]) + [("send", 1), ("send", 0)]
        self.assertEqual(self.seen(calls + [("watch", 1), ("watch", 2)]), [])
        self.assertEqual(self.seen(calls + [("watch", 1), ("watch", 2), ("watch", 0)]), [19, 36])

    def test_a_gap_behind_a_delay(self):
        calls = [("begin", 1, 10, SUMMING), ("frame", 0, 1)]
        calls += [("send", 0), ("hand", 0, 1), ("send", 1), ("hand", 1, 0)]
        calls += frames(0, [2]) + frames(1, [3, 4]) + [("send", 0), ("send", 1)]
        self.assertEqual(self.seen(calls + [("watch", 1), ("watch", 2)]), [0])
        self.assertEqual(self.seen(calls + [("watch", 1), ("watch", 2), ("watch", 0)]), [0, 49, 66])

    def test_with_a_delay_the_first_frames_are_seen_at_once(self):
        for delay in range(7):
            begun = ("begin", delay, 10, SUMMING)
            self.assertEqual(last(begun, ("film",)), [delay] + [0] * delay)
            self.assertEqual(last(begun, ("send", 0), ("watch", 0)), [delay, summed([0] * delay)])
            calls = [begun] + frames(0, [1, 2]) + frames(1, [3, 4]) + [("send", 1), ("send", 0)]
            self.assertEqual(self.seen(calls + [("watch", 0), ("watch", 1)]), [0] * delay + [49, 66])

    def test_a_letter_that_is_read_then_lost(self):
        calls = SENT + [("watch", 0), ("lose", 0), ("watch", 0), ("lose", 0)]
        self.assertEqual(last(*calls, ("film",)), [3] + FILM)

    def test_a_letter_that_is_lost_and_never_read(self):
        self.assertEqual(self.seen(SENT + [("lose", 0), ("watch", 0)]), [])

    def test_a_letter_that_is_read_then_handed_over(self):
        calls = SENT + [("watch", 0), ("hand", 0, 0), ("hand", 0, 1), ("watch", 0)]
        self.assertEqual(self.seen(calls), FILM)

    def test_a_letter_that_is_never_handed_over(self):
        given = play(*SENT, ("watch", 0), ("watch", 1), ("settled", 0), ("settled", 1))
        self.assertEqual(given[-3:], [[3, summed(FILM)], [0, summed([])], [0, summed([])]])

    def test_letters_lie_on(self):
        letters = last(*SENT, ("net",))
        for k in (0, 1):
            self.assertEqual(last(*SENT, ("watch", k), ("net",)), letters)
        self.assertEqual(play(*SENT, ("watch", 1), ("watch", 0), ("net",), ("lose", 1))[-2:], [letters, [1]])

    def test_what_is_read_does_not_change_the_sides(self):
        later = [("frame", 0, 3), ("frame", 1, 3), ("send", 0), ("send", 1), ("hand", 0, 0), ("hand", 0, 0)]
        later = LOOK + later + LOOK
        given = play(*SENT, ("watch", 0), ("watch", 1), *later)
        self.assertEqual(given[len(SENT) + 2:], play(*SENT, *later)[len(SENT):])

    def test_what_the_sides_know_is_not_read(self):
        calls = [BEGUN] + frames(0, [1]) + frames(1, [2]) + handed_on(0) + handed_on(1)
        given = play(*calls, ("settled", 0), ("settled", 1), ("film",))
        self.assertEqual(given[-3:], [[1, summed([33])], [1, summed([33])], [0]])

    def test_the_mark_has_no_faults(self):
        calls = [BEGUN, ("fault", 0, 100, 70), ("fault", 1, 50, 8)] + SENT[1:]
        given = play(*calls, ("watch", 0), ("watch", 1), ("now", 0), ("now", 1))
        self.assertEqual(given[-4:], [[0, summed([])], [3, summed(FILM)],
                                      [3, summed([1, 2, 3], {0: 70})], [3, summed([64, 80, 96], others={50: 8})]])

    def test_the_mark_is_of_begins_bytes(self):
        program = [6, 5, 1, 200, 8, 3, 0, 0]
        calls = [("begin", 0, 1, program), ("frame", 0, 1), ("frame", 1, 2), ("send", 0), ("send", 1), ("watch", 0)]
        expected = machine(program, a=144, x=5, place=8, z=0, c=1, changed={127: 33})
        self.assertEqual(last(*calls, ("watch", 1)), [1, mark_of(expected)])
        # At the beginning there are no bytes.
        self.assertEqual(last(("send", 1), ("watch", 0)), [0, mark_of(machine([]))])
        self.assertEqual(last(*calls[1:], ("watch", 1)), [1, mark_of(machine([], place=2, changed={127: 33}))])

    def test_more_frames_than_are_run(self):
        # What is told with a delay is seen ahead of its frames.
        calls = [("begin", 6, 1, SUMMING)] + frames(0, [1]) + frames(1, [2]) + [("send", 0), ("send", 1)]
        self.assertEqual(self.seen(calls + [("watch", 0), ("watch", 1)]), [0] * 6 + [33])

    def test_more_than_a_letter_tells(self):
        pads = [1, 2, 3, 4, 5, 6, 7, 8]
        calls = [BEGUN] + frames(0, pads) + frames(1, [0] * 8) + [("send", 0), ("send", 1), ("watch", 0), ("watch", 1)]
        self.assertEqual(self.seen(calls), pads[:6])
        calls += [("hand", 0, 0), ("hand", 0, 0), ("send", 0), ("send", 1), ("hand", 0, 0), ("hand", 0, 0)]
        calls += [("send", 0), ("send", 1), ("watch", 0), ("watch", 1)]
        self.assertEqual(self.seen(calls), pads)

    def test_behind_a_begin(self):
        calls = SENT + [("watch", 0), ("watch", 1), BEGUN]
        self.assertEqual(last(*calls, ("film",)), [0])
        self.assertEqual(last(*calls, ("watch", 0)), [-2])
        # Only this game's letters count.
        later = frames(0, [9]) + [("send", 0), ("watch", 0)]
        self.assertEqual(self.seen(calls + later), [])
        self.assertEqual(last(*calls[:-1], ("begin", 2, 1, SUMMING), ("film",)), [2, 0, 0])

    def test_a_refused_begin_changes_nothing(self):
        calls = SENT + [("watch", 0), ("watch", 1), ("begin", 0, 0, [])]
        self.assertEqual(last(*calls, ("film",)), [3] + FILM)

    def test_film_changes_nothing(self):
        given = play(*SENT, ("film",), ("watch", 0), ("film",), ("watch", 1), ("film",), ("film",))[len(SENT):]
        self.assertEqual(given, [[0], [0, summed([])], [0], [3, summed(FILM)], [3] + FILM, [3] + FILM])


if __name__ == "__main__":
    unittest.main()
