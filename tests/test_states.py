"""Promise 3, of state and pads; what they answer, and runs."""

import unittest

from helper import SUMMING, frames, handed_on, last, machine, mark_of, play, summed_machine

BEGUN = ("begin", 0, 10, SUMMING)

# Side 0 has run three frames and side 1 two; neither has heard of the other.
APART = [BEGUN] + frames(0, [1, 2, 3]) + frames(1, [4, 5])


class State(unittest.TestCase):
    def test_at_the_beginning(self):
        for side in (0, 1):
            self.assertEqual(last(("state", side, 0)), machine([]))
            self.assertEqual(last(BEGUN, ("state", side, 0)), machine(SUMMING))

    def test_133_numbers(self):
        self.assertEqual([len(part) for part in play(("state", 0, 0), *APART, ("state", 1, 2))][::len(APART) + 1],
                         [133, 133])

    def test_ahead_of_each_frame_and_behind_all(self):
        for side, pads in ((0, [1, 2, 3]), (1, [64, 80])):
            for t in range(len(pads) + 1):
                self.assertEqual(last(*APART, ("state", side, t)), summed_machine(pads[:t]), (side, t))

    def test_t_below_0_or_more_than_it_has_run(self):
        for side, run in ((0, 3), (1, 2)):
            for t in (-1, run + 1, -2, run + 2, 1000000, -1000000):
                self.assertEqual(last(*APART, ("state", side, t)), [-3], (side, t))
            self.assertEqual(play(("state", side, -1), ("state", side, 1)), [[-3], [-3]])

    def test_pads_that_are_told_but_not_run(self):
        calls = [("begin", 6, 10, SUMMING)] + frames(0, [1, 2])
        self.assertEqual(last(*calls, ("state", 0, 2)), summed_machine([0, 0]))
        self.assertEqual(last(*calls, ("state", 0, 3)), [-3])

    def test_which_refusal_counts(self):
        for side in (-1, 2):
            for t in (-1, 0, 1):
                self.assertEqual(last(("state", side, t)), [-1])

    def test_all_of_the_machine(self):
        # x is 5; a is 200 and once more 200: 144, with c set; rest.
        program = [6, 5, 1, 200, 8, 3, 0, 0]
        given = last(("begin", 0, 1, program), ("frame", 1, 2), ("state", 1, 1))
        self.assertEqual(given, machine(program, a=144, x=5, place=8, z=0, c=1, changed={127: 32}))
        program = [1, 3, 3, 127, 9, 127]
        given = last(("begin", 0, 1, program), ("frame", 0, 2), ("state", 0, 1))
        self.assertEqual(given, machine(program, a=0, x=0, place=8, z=1, c=0, changed={127: 3}))

    def test_its_mark_is_what_now_and_settled_answer(self):
        calls = APART + handed_on(0)
        given = play(*calls, ("now", 1), ("state", 1, 2), ("settled", 0), ("state", 0, 0))[len(calls):]
        self.assertEqual(given[0], [2, mark_of(given[1])])
        self.assertEqual(given[2], [0, mark_of(given[3])])

    def test_behind_what_is_run_again(self):
        calls = APART + handed_on(1)
        pads = [65, 82, 83]
        for t in range(4):
            self.assertEqual(last(*calls, ("state", 0, t)), summed_machine(pads[:t]))
        for t in range(3):
            self.assertEqual(last(*calls, ("state", 1, t)), summed_machine([64, 80][:t]))

    def test_asking_changes_nothing(self):
        asked = [("state", side, t) for side in (-1, 0, 1) for t in range(-1, 5)]
        later = handed_on(0) + handed_on(1) + frames(1, [6]) + [("now", 0), ("now", 1), ("state", 0, 3), ("runs", 0)]
        given = play(*APART, *asked, *later)
        self.assertEqual(given[-len(later):], play(*APART, *later)[-len(later):])


class Pads(unittest.TestCase):
    def test_edges(self):
        for side, pads in ((0, [1, 2, 3]), (1, [4, 5])):
            for t, pad in enumerate(pads):
                self.assertEqual(last(*APART, ("pads", side, t)), [pad, 0, 1], (side, t))
            for t in (-1, len(pads), -2, len(pads) + 1, 1000000, -1000000):
                self.assertEqual(last(*APART, ("pads", side, t)), [-3], (side, t))

    def test_nothing_run(self):
        for side in (0, 1):
            for begun in ([], [("begin", 3, 1, SUMMING)]):
                for t in (-1, 0, 1):
                    self.assertEqual(last(*begun, ("pads", side, t)), [-3])

    def test_which_refusal_counts(self):
        for side in (-1, 2):
            for t in (-1, 0, 3):
                self.assertEqual(last(*APART, ("pads", side, t)), [-1])

    def test_with_a_delay(self):
        calls = [("begin", 2, 10, SUMMING)] + frames(1, [7, 8, 9])
        given = play(*calls, *[("pads", 1, t) for t in range(-1, 5)])[len(calls):]
        # 8 and 9 are told, but of frames 3 and 4, which aren't run yet.
        self.assertEqual(given, [[-3], [0, 0, 0], [0, 0, 0], [7, 0, 1], [-3], [-3]])

    def test_known(self):
        calls = [BEGUN] + frames(1, [5, 6]) + handed_on(1) + frames(0, [1, 2])
        self.assertEqual(play(*calls, ("pads", 0, 0), ("pads", 0, 1))[-2:], [[1, 5, 0], [2, 6, 0]])

    def test_guessed_by_what_was_used_ahead(self):
        calls = [BEGUN] + frames(1, [5]) + handed_on(1) + frames(0, [1, 2, 3])
        given = play(*calls, *[("pads", 0, t) for t in range(3)])[len(calls):]
        self.assertEqual(given, [[1, 5, 0], [2, 5, 1], [3, 5, 1]])

    def test_guessed_rightly(self):
        calls = [BEGUN] + frames(0, [1, 2]) + frames(1, [0, 0])
        self.assertEqual(play(*calls, ("pads", 0, 0), ("pads", 0, 1))[-2:], [[1, 0, 1], [2, 0, 1]])
        given = play(*calls, *handed_on(1), ("pads", 0, 0), ("pads", 0, 1))
        # Nothing is run again, but it is no guess any more.
        self.assertEqual(given[-3:], [[0], [1, 0, 0], [2, 0, 0]])

    def test_guessed_wrongly(self):
        calls = [BEGUN] + frames(0, [1, 2, 3, 4]) + frames(1, [0, 9])
        given = play(*calls, *handed_on(1), *[("pads", 0, t) for t in range(4)])
        self.assertEqual(given[-5:], [[3], [1, 0, 0], [2, 9, 0], [3, 9, 1], [4, 9, 1]])

    def test_on_side_1_too(self):
        calls = [BEGUN] + frames(1, [1, 2, 3]) + frames(0, [8])
        given = play(*calls, ("pads", 1, 0), ("pads", 0, 0), *handed_on(0), *[("pads", 1, t) for t in range(3)])
        self.assertEqual(given[len(calls):], [[1, 0, 1], [8, 0, 1], [0, 0, 0, 1, 8], [3],
                                              [1, 8, 0], [2, 8, 1], [3, 8, 1]])

    def test_what_is_sent_but_did_not_come_is_a_guess(self):
        calls = [BEGUN] + frames(0, [1]) + frames(1, [5])
        self.assertEqual(last(*calls, ("send", 1), ("pads", 0, 0)), [1, 0, 1])
        self.assertEqual(last(*calls, ("send", 1), ("lose", 0), ("pads", 0, 0)), [1, 0, 1])
        self.assertEqual(last(*calls, ("send", 1), ("watch", 0), ("pads", 0, 0)), [1, 0, 1])

    def test_asking_changes_nothing(self):
        asked = [("pads", side, t) for side in (-1, 0, 1) for t in range(-1, 5)]
        later = handed_on(0) + handed_on(1) + frames(1, [6]) + [("now", 0), ("now", 1), ("pads", 0, 2), ("runs", 0)]
        given = play(*APART, *asked, *later)
        self.assertEqual(given[-len(later):], play(*APART, *later)[-len(later):])


class Runs(unittest.TestCase):
    def runs(self, *calls):
        return play(*calls, ("runs", 0), ("runs", 1))[-2:]

    def test_nothing_run(self):
        self.assertEqual(self.runs(), [[0], [0]])
        self.assertEqual(self.runs(("begin", 6, 10, SUMMING)), [[0], [0]])

    def test_no_frame_run_again(self):
        self.assertEqual(self.runs(*APART), [[3], [2]])

    def test_guesses_that_were_right(self):
        calls = [BEGUN] + frames(0, [1, 2, 3]) + frames(1, [0, 0, 0])
        self.assertEqual(self.runs(*calls, *handed_on(1)), [[3], [3]])

    def test_a_frame_that_is_refused_does_not_count(self):
        calls = [("begin", 0, 1, SUMMING)] + frames(0, [1, 2, 3, 16])
        self.assertEqual(self.runs(*calls), [[1], [0]])

    def test_run_again_once(self):
        self.assertEqual(self.runs(*APART, *handed_on(1)), [[3 + 3], [2]])
        self.assertEqual(self.runs(*APART, *handed_on(1), *handed_on(0)), [[3 + 3], [2 + 2]])

    def test_run_again_several_times(self):
        calls = [BEGUN] + frames(0, [1] * 5)
        for pad in (5, 6, 7):
            calls += frames(1, [pad]) + handed_on(1)
        given = play(*calls, ("runs", 0), ("runs", 1))
        self.assertEqual([given[8], given[11], given[14]], [[5], [4], [3]])
        self.assertEqual(given[-2:], [[5 + 5 + 4 + 3], [3]])

    def test_a_letter_that_comes_twice(self):
        calls = APART + [("send", 1), ("hand", 0, 1), ("hand", 0, 1), ("hand", 0, 0)]
        self.assertEqual(self.runs(*calls), [[3 + 3], [2]])

    def test_frames_behind_what_was_run_again(self):
        self.assertEqual(self.runs(*APART, *handed_on(1), ("frame", 0, 1)), [[3 + 3 + 1], [2]])

    def test_a_fault_runs_nothing(self):
        self.assertEqual(self.runs(*APART, ("fault", 0, 100, 1)), [[3], [2]])

    def test_who_watches_runs_nothing_on_a_side(self):
        self.assertEqual(self.runs(*APART, ("send", 0), ("send", 1), ("watch", 0), ("watch", 1)), [[3], [2]])

    def test_behind_a_begin(self):
        calls = APART + handed_on(1) + [BEGUN]
        self.assertEqual(self.runs(*calls), [[0], [0]])
        self.assertEqual(self.runs(*calls, ("frame", 1, 1)), [[0], [1]])

    def test_no_other_sides(self):
        for side in (-1, 2):
            self.assertEqual(last(*APART, ("runs", side)), [-1])


if __name__ == "__main__":
    unittest.main()
