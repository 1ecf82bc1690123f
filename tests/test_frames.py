"""Promise 2, of frame; and the sides: the delay, guesses, what is settled, what is run again."""

import unittest

from helper import SUMMING, handed_on, last, play, summed
from twopads.play import Game


def begin(delay, ahead):
    return ("begin", delay, ahead, SUMMING)


def to_the_end(frames):
    """Calls by which both sides run so many frames and know all of each other's pads."""
    calls = [begin(0, 1)]
    for t in range(frames):
        calls += [("frame", 0, t % 16), ("frame", 1, 1)] + handed_on(0) + handed_on(1)
    return calls


class FrameRefused(unittest.TestCase):
    def test_pads(self):
        for pad in (0, 15):
            self.assertEqual(play(begin(0, 1), ("frame", 0, pad), ("now", 0)), [[0], [1, 1], [1, summed([pad])]])
            self.assertEqual(play(begin(0, 1), ("frame", 1, pad), ("now", 1)), [[0], [1, 1], [1, summed([pad * 16])]])
        for pad in (-1, 16, 1000000, -1000000):
            for side in (0, 1):
                given = play(begin(0, 1), ("frame", side, pad), ("now", side), ("send", side))
                self.assertEqual(given[1:], [[-1], [0, summed([])], [side, 0, 0, 0]])

    def test_the_hundredth_frame_and_no_more(self):
        calls = to_the_end(99)
        self.assertEqual(last(*calls, ("frame", 0, 2)), [100, 1])
        calls = to_the_end(100)
        pads = [t % 16 + 16 for t in range(100)]
        given = play(*calls, ("frame", 0, 2), ("frame", 1, 2), ("now", 0), ("now", 1), ("settled", 0), ("send", 0))
        behind = [100, summed(pads)]
        self.assertEqual(given[len(calls):], [[-5], [-5], behind, behind, behind, [0, 100, 100, 0]])

    def test_one_side_at_its_end_and_the_other_not(self):
        calls = to_the_end(99) + [("frame", 0, 2)] + handed_on(0)
        self.assertEqual(play(*calls, ("frame", 0, 2), ("frame", 1, 3))[-2:], [[-5], [100, 0]])

    def test_as_far_ahead_as_it_may_be(self):
        for ahead in (1, 2, 10):
            calls = [begin(0, ahead)] + [("frame", 0, 1)] * (ahead - 1)
            self.assertEqual(last(*calls, ("frame", 0, 1)), [ahead, 1])
            given = play(*calls, ("frame", 0, 1), ("frame", 0, 1), ("now", 0), ("send", 0))
            self.assertEqual(given[-3:-1], [[-6], [ahead, summed([1] * ahead)]])
            told = min(ahead, 6)
            self.assertEqual(given[-1], [0, 0, 0, told] + [1] * told)

    def test_the_delay_is_known_of_the_other(self):
        for delay in (1, 6):
            calls = [begin(delay, 2)] + [("frame", 1, 1)] * (delay + 3)
            guesses = [0] * delay + [1, 1]
            expected = [[t + 1, guesses[t]] for t in range(delay + 2)] + [[-6]]
            self.assertEqual(play(*calls)[1:], expected)

    def test_what_comes_lets_it_go_on(self):
        calls = [begin(0, 2), ("frame", 0, 1), ("frame", 0, 1), ("frame", 1, 0)]
        self.assertEqual(last(*calls, ("frame", 0, 1)), [-6])
        given = play(*calls, *handed_on(1), ("frame", 0, 1), ("frame", 0, 1))
        self.assertEqual(given[-2:], [[3, 1], [-6]])

    def test_which_refusal_counts(self):
        far = [begin(0, 1), ("frame", 0, 1)]
        self.assertEqual(last(*far, ("frame", 0, 1)), [-6])
        self.assertEqual(last(*far, ("frame", 0, 16)), [-1])
        self.assertEqual(last(*far, ("frame", 2, 16)), [-1])
        full = to_the_end(99) + [("frame", 0, 2)]
        # Side 0 has run 100 frames, knows 99 of the other's and may be ahead by 1: both are due.
        self.assertEqual(last(*full, ("frame", 0, 2)), [-5])
        self.assertEqual(last(*full, ("frame", 0, -1)), [-1])
        self.assertEqual(last(*full, ("frame", -1, 2)), [-1])


class Delays(unittest.TestCase):
    def test_pads_count_late(self):
        calls = [begin(2, 10)] + [("frame", 0, pad) for pad in (3, 4, 5, 6)]
        for frames, pads in enumerate(([], [0], [0, 0], [0, 0, 3], [0, 0, 3, 4])):
            self.assertEqual(last(*calls[:frames + 1], ("now", 0)), [frames, summed(pads)])

    def test_the_first_frames_are_settled(self):
        calls = [begin(2, 10)] + [("frame", 0, 9)] * 3
        self.assertEqual(last(*calls[:2], ("settled", 0)), [1, summed([0])])
        self.assertEqual(last(*calls, ("settled", 0)), [2, summed([0, 0])])

    def test_both_see_the_same_game(self):
        calls = [begin(3, 4), ("frame", 0, 1), ("frame", 0, 2), ("frame", 1, 8), ("frame", 1, 9)]
        calls += [("frame", 0, 0), ("frame", 0, 0), ("frame", 0, 0), ("frame", 1, 0), ("frame", 1, 0), ("frame", 1, 0)]
        calls += handed_on(0) + handed_on(1)
        given = play(*calls, ("now", 0), ("now", 1), ("settled", 0), ("settled", 1))
        behind = [5, summed([0, 0, 0, 1 + 16 * 8, 2 + 16 * 9])]
        self.assertEqual(given[-4:], [behind] * 4)

    def test_a_letter_with_a_delay_begins_behind_it(self):
        calls = [begin(2, 10), ("frame", 1, 7), ("frame", 1, 8)]
        self.assertEqual(last(*calls, ("send", 1)), [1, 2, 2, 2, 7, 8])


class Guesses(unittest.TestCase):
    def test_at_first_0_is_guessed(self):
        self.assertEqual(play(begin(0, 3), ("frame", 0, 1), ("now", 0))[1:], [[1, 1], [1, summed([1])]])
        self.assertEqual(play(begin(0, 3), ("frame", 1, 1), ("now", 1))[1:], [[1, 1], [1, summed([16])]])

    def test_then_what_was_used_ahead(self):
        calls = [begin(0, 4), ("frame", 1, 5)] + handed_on(1) + [("frame", 0, 1)] * 3
        given = play(*calls, ("now", 0))
        self.assertEqual(given[-4:], [[1, 0], [2, 1], [3, 1], [3, summed([81, 81, 81])]])

    def test_what_is_known_is_no_guess(self):
        calls = [begin(0, 4), ("frame", 1, 5), ("frame", 1, 6)] + handed_on(1)
        given = play(*calls, ("frame", 0, 0), ("frame", 0, 0), ("frame", 0, 0), ("now", 0), ("settled", 0))
        self.assertEqual(given[-5:], [[1, 0], [2, 0], [3, 1], [3, summed([80, 96, 96])], [2, summed([80, 96])]])

    def test_right_ones_are_not_run_again(self):
        calls = [begin(0, 4)] + [("frame", 0, 3)] * 3 + [("frame", 1, 0)] * 3
        given = play(*calls, ("settled", 0), *handed_on(1), ("settled", 0), ("now", 0))
        settled = [3, summed([3, 3, 3])]
        self.assertEqual(given[-5:], [[0, summed([])], [1, 0, 0, 3, 0, 0, 0], [0], settled, settled])

    def test_wrong_ones_are_run_again_from_the_first_on(self):
        for wrong in range(4):
            pads = [0] * wrong + [7] + [0] * (3 - wrong)
            calls = [begin(0, 4)] + [("frame", 0, 3)] * 4 + [("frame", 1, pad) for pad in pads]
            given = play(*calls, *handed_on(1), ("now", 0), ("settled", 0))
            behind = [4, summed([3 + 16 * pad for pad in pads])]
            self.assertEqual(given[-3:], [[4 - wrong], behind, behind])

    def test_run_again_with_what_is_used_then(self):
        calls = [begin(0, 4)] + [("frame", 0, 3)] * 4 + [("frame", 1, 0), ("frame", 1, 7)]
        given = play(*calls, *handed_on(1), ("now", 0), ("settled", 0))
        # Frames 2 and 3 are still guessed, but now by 7.
        self.assertEqual(given[-3:], [[3], [4, summed([3, 115, 115, 115])], [2, summed([3, 115])]])

    def test_a_new_guess_may_turn_out_wrong_too(self):
        calls = [begin(0, 4)] + [("frame", 0, 3)] * 4 + [("frame", 1, 0), ("frame", 1, 7)] + handed_on(1)
        calls += [("frame", 1, 7), ("frame", 1, 0)]
        given = play(*calls, *handed_on(1), ("now", 0), ("settled", 0))
        behind = [4, summed([3, 115, 115, 3])]
        self.assertEqual(given[-3:], [[1], behind, behind])

    def test_each_frame_once_for_one_letter(self):
        calls = [begin(0, 4)] + [("frame", 0, 0)] * 4 + [("frame", 1, pad) for pad in (1, 2, 3, 4)]
        self.assertEqual(last(*calls, *handed_on(1)), [4])

    def test_pads_of_frames_that_are_not_run_yet(self):
        calls = [begin(0, 4), ("frame", 0, 1)] + [("frame", 1, pad) for pad in (0, 5, 6)]
        given = play(*calls, *handed_on(1), ("settled", 0), ("frame", 0, 1), ("frame", 0, 1), ("settled", 0))
        self.assertEqual(given[-5:], [[0], [1, summed([1])], [2, 0], [3, 0], [3, summed([1, 81, 97])]])

    def test_on_side_1_too(self):
        calls = [begin(0, 4)] + [("frame", 1, 3)] * 4 + [("frame", 0, pad) for pad in (0, 0, 9)]
        given = play(*calls, *handed_on(0), ("now", 1), ("settled", 1))
        self.assertEqual(given[-3:], [[2], [4, summed([48, 48, 57, 57])], [3, summed([48, 48, 57])]])

    def test_a_side_that_ran_nothing_runs_nothing_again(self):
        calls = [begin(0, 4), ("frame", 0, 9)]
        self.assertEqual(play(*calls, *handed_on(0), ("now", 1), ("settled", 1))[-3:],
                         [[0], [0, summed([])], [0, summed([])]])

    def test_what_is_run_again_is_run_from_the_machine_as_it_was(self):
        # Places, a and x go on from frame to frame: only a game from the same machine gives the same mark.
        program = [7, 1, 2, 127, 5, 64, 12, 10, 0, 0, 8, 64, 3, 99]
        calls = [("begin", 0, 6, program)]
        calls += [("frame", 0, pad) for pad in (1, 2, 3, 4, 5)] + [("frame", 1, pad) for pad in (9, 0, 7, 7, 2)]
        given = play(*calls, *handed_on(0), *handed_on(1), ("now", 0), ("now", 1), ("settled", 0), ("settled", 1))
        self.assertEqual([given[-7], given[-5]], [[5], [5]])
        self.assertEqual(given[-4], given[-3])
        self.assertEqual(given[-4], given[-2])
        self.assertEqual(given[-4], given[-1])


class Gaps(unittest.TestCase):
    """Letters that sides send leave no gap, so here one is put on the net that does."""

    def game(self, letter):
        game = Game()
        game.begin(0, 3, SUMMING)
        game.letters.append(letter)
        return game

    def test_settled_is_only_what_is_ahead_of_the_gap(self):
        game = self.game([1, 1, 0, 2, 5, 6])
        for t in range(3):
            game.frame(0, 0)
        self.assertEqual(game.settled(0), [0, summed([])])
        self.assertEqual(game.hand(0, 0), [2])
        self.assertEqual(game.settled(0), [0, summed([])])
        self.assertEqual(game.now(0), [3, summed([0, 80, 96])])
        self.assertEqual(game.frame(0, 0), [-6])

    def test_a_letter_tells_what_is_known_ahead_of_the_gap(self):
        game = self.game([1, 1, 0, 2, 5, 6])
        game.hand(0, 0)
        self.assertEqual(game.send(0), [0, 0, 0, 0])
        self.assertEqual([game.frame(0, 0), game.frame(0, 0)], [[1, 1], [2, 0]])

    def test_a_gap_that_is_closed(self):
        game = self.game([1, 1, 0, 2, 5, 6])
        game.letters.append([1, 0, 0, 2, 4, 5])
        for t in range(3):
            game.frame(0, 0)
        game.hand(0, 0)
        self.assertEqual(game.hand(0, 0), [3])
        self.assertEqual(game.settled(0), [3, summed([64, 80, 96])])
        self.assertEqual(game.send(0)[2], 3)

    def test_what_is_known_already_is_passed_over(self):
        game = self.game([1, 0, 0, 1, 5])
        game.letters.append([1, 0, 0, 2, 9, 6])
        game.frame(0, 0)
        self.assertEqual([game.hand(0, 0), game.hand(0, 0)], [[1], [0]])
        game.frame(0, 0)
        self.assertEqual(game.now(0), [2, summed([80, 96])])


if __name__ == "__main__":
    unittest.main()
