"""Promise 3, of fault; and what a fault does to its side's machine."""

import unittest

from helper import SUMMING, frames, handed_on, last, machine, play, summed, summed_machine

BEGUN = ("begin", 0, 10, SUMMING)


class FaultRefused(unittest.TestCase):
    def check(self, fault, numbers):
        self.assertEqual(last(BEGUN, fault), numbers, fault)

    def test_places(self):
        for side in (0, 1):
            for place in (0, 127):
                self.check(("fault", side, place, 1), [0])
            for place in (-1, 128, 255, 256, 1000000, -1000000):
                self.check(("fault", side, place, 1), [-1])

    def test_bytes(self):
        for side in (0, 1):
            for byte in (0, 255):
                self.check(("fault", side, 1, byte), [0])
            for byte in (-1, 256, 1000000, -1000000):
                self.check(("fault", side, 1, byte), [-1])

    def test_sides(self):
        for side in (-1, 2, 1000000, -1000000):
            self.check(("fault", side, 1, 1), [-1])

    def test_what_is_refused_is_no_fault(self):
        wrong = [("fault", 0, 128, 7), ("fault", 0, -1, 7), ("fault", 0, 100, 256), ("fault", 0, 100, -1),
                 ("fault", 2, 100, 7), ("fault", -1, 100, 7)] * 2
        given = play(BEGUN, *wrong, *[("fault", 0, 50, 1)] * 10, ("frame", 0, 3), ("frame", 1, 3),
                     ("state", 0, 1), ("state", 1, 1))
        self.assertEqual(given[1:23], [[-1]] * 12 + [[0]] * 10)
        self.assertEqual(given[-2:], [summed_machine([3], others={50: 1}), summed_machine([48])])

    def test_the_tenth_and_the_eleventh(self):
        for side in (0, 1):
            calls = [BEGUN] + [("fault", side, place, 1) for place in range(20, 31)]
            self.assertEqual(play(*calls)[1:], [[0]] * 10 + [[-5]])
            given = play(*calls, ("frame", side, 0), ("state", side, 1))
            self.assertEqual(given[-1], summed_machine([0], others={place: 1 for place in range(20, 30)}))

    def test_the_tenth_over_several_frames(self):
        calls = [BEGUN] + [("fault", 0, 100, 1)] * 4 + [("frame", 0, 1)] + [("fault", 0, 100, 2)] * 5
        calls += [("frame", 0, 1)] + [("fault", 0, 100, 3)] * 2 + [("frame", 0, 1), ("fault", 0, 100, 4)]
        self.assertEqual(play(*calls)[1:], [[0]] * 4 + [[1, 1]] + [[1]] * 5 + [[2, 1], [2], [-5], [3, 1], [-5]])

    def test_the_other_sides_count_is_its_own(self):
        calls = [BEGUN] + [("fault", 0, 100, 1)] * 10
        given = play(*calls, *[("fault", 1, 100, 1)] * 11, ("fault", 0, 100, 1))
        self.assertEqual(given[-12:], [[0]] * 10 + [[-5], [-5]])

    def test_which_refusal_counts(self):
        full = [BEGUN] + [("fault", 0, 100, 1)] * 10
        self.assertEqual(last(*full, ("fault", 0, 127, 255)), [-5])
        for wrong in (("fault", 0, 128, 1), ("fault", 0, 1, 256), ("fault", 2, 1, 1), ("fault", 0, -1, -1)):
            self.assertEqual(last(*full, wrong), [-1], wrong)

    def test_answers_how_many_frames_it_has_run(self):
        calls = [BEGUN] + frames(0, [1, 2, 3]) + frames(1, [4])
        self.assertEqual(play(*calls, ("fault", 0, 1, 1), ("fault", 1, 1, 1))[-2:], [[3], [1]])
        calls = [("begin", 4, 1, SUMMING)] + frames(0, [1, 2])
        self.assertEqual(play(*calls, ("fault", 0, 1, 1), ("fault", 1, 1, 1))[-2:], [[2], [0]])


class Fault(unittest.TestCase):
    def test_not_ahead_of_its_frame_but_behind(self):
        for side, scale in ((0, 1), (1, 16)):
            calls = [BEGUN] + frames(side, [1, 2]) + [("fault", side, 100, 70)]
            given = play(*calls, ("state", side, 2), ("now", side), ("frame", side, 3),
                         *[("state", side, t) for t in range(4)])
            pads = [1 * scale, 2 * scale, 3 * scale]
            ahead = [summed_machine(pads[:t]) for t in range(3)]
            self.assertEqual(given[-7:-4], [ahead[2], [2, summed(pads[:2])], [3, 1]])
            self.assertEqual(given[-4:], ahead + [summed_machine(pads, {2: 70})])

    def test_it_goes_on_from_there(self):
        calls = [BEGUN, ("frame", 0, 1), ("fault", 0, 100, 70), ("frame", 0, 2), ("frame", 0, 3)]
        given = play(*calls, ("state", 0, 3), ("now", 0))
        self.assertEqual(given[-2:], [summed_machine([1, 2, 3], {1: 70}), [3, summed([1, 2, 3], {1: 70})]])
        self.assertEqual(given[-2][5 + 100], 75)

    def test_only_as_its_frame_begins(self):
        # The program puts 9 at place 60 in each frame: behind frame 0 nothing of the fault is left.
        program = [1, 9, 3, 60, 0, 0, 12, 0]
        calls = [("begin", 0, 10, program), ("fault", 0, 60, 5)] + frames(0, [0, 0])
        self.assertEqual(last(*calls, ("state", 0, 1)), machine(program, a=9, place=6, z=0, changed={60: 9}))
        self.assertEqual(last(*calls, ("state", 0, 2)), machine(program, a=9, place=6, z=0, changed={60: 9}))

    def test_the_other_side_has_none(self):
        calls = [BEGUN, ("fault", 1, 100, 70), ("frame", 0, 1), ("frame", 1, 2)]
        self.assertEqual(play(*calls, ("state", 0, 1), ("state", 1, 1))[-2:],
                         [summed_machine([1]), summed_machine([32], {0: 70})])

    def test_edges(self):
        # Place 0 with 255, modulo 16: instruction 15, and c isn't set; so a stays 0 and the pad isn't added.
        given = last(BEGUN, ("fault", 0, 0, 255), ("frame", 0, 7), ("state", 0, 1))
        self.assertEqual(given, machine([255] + SUMMING[1:], a=0, place=8, z=1, c=0, changed={127: 7}))
        # Place 0 with 0: rest.
        given = last(BEGUN, ("fault", 0, 0, 0), ("frame", 0, 7), ("state", 0, 1))
        self.assertEqual(given, machine([0] + SUMMING[1:], place=2, changed={127: 7}))
        given = last(BEGUN, ("fault", 0, 126, 255), ("frame", 0, 7), ("state", 0, 1))
        self.assertEqual(given, summed_machine([7], others={126: 255}))

    def test_at_place_127_the_pad_comes_behind_it(self):
        for side, pad in ((0, 5), (1, 80)):
            given = play(BEGUN, ("fault", side, 127, 99), ("state", side, 0), ("frame", side, 5), ("state", side, 1))
            self.assertEqual(given[1:], [[0], machine(SUMMING), [1, 1], summed_machine([pad])])

    def test_several_of_one_frame_at_different_places(self):
        calls = [BEGUN, ("frame", 0, 1), ("fault", 0, 100, 70), ("fault", 0, 50, 8), ("fault", 0, 0, 1),
                 ("frame", 0, 2)]
        # Place 0 is instruction 1 now: a is n, which is 127.
        expected = machine([1] + SUMMING[1:], a=197, place=8, z=0, changed={50: 8, 100: 197, 127: 2})
        self.assertEqual(last(*calls, ("state", 0, 2)), expected)

    def test_several_of_one_frame_at_one_place(self):
        calls = [BEGUN, ("fault", 0, 100, 70), ("fault", 0, 100, 20), ("frame", 0, 2)]
        self.assertEqual(last(*calls, ("state", 0, 1)), summed_machine([2], {0: 20}))
        calls = [BEGUN, ("fault", 0, 100, 20), ("fault", 0, 50, 6), ("fault", 0, 100, 70), ("frame", 0, 2)]
        self.assertEqual(last(*calls, ("state", 0, 1)), summed_machine([2], {0: 70}, {50: 6}))

    def test_of_different_frames(self):
        calls = [BEGUN, ("fault", 0, 100, 70), ("frame", 0, 1), ("frame", 0, 2), ("fault", 0, 100, 20), ("frame", 0, 3)]
        given = play(*calls, *[("state", 0, t) for t in range(4)])
        faults = {0: 70, 2: 20}
        self.assertEqual(given[-4:], [summed_machine([1, 2, 3][:t], faults) for t in range(4)])

    def test_the_byte_that_is_there_already(self):
        calls = [BEGUN, ("frame", 0, 1), ("fault", 0, 100, 1), ("fault", 0, 1, 127), ("frame", 0, 2)]
        self.assertEqual(last(*calls, ("state", 0, 2)), summed_machine([1, 2]))

    def test_at_a_refused_frame_it_waits_for_the_next(self):
        calls = [("begin", 0, 1, SUMMING), ("frame", 0, 1), ("fault", 0, 100, 70), ("frame", 0, 2), ("frame", 1, 0)]
        given = play(*calls, *handed_on(1), ("frame", 0, 3), ("state", 0, 2))
        self.assertEqual([given[3], given[-2], given[-1]], [[-6], [2, 1], summed_machine([1, 3], {1: 70})])

    def test_it_lasts_over_a_hand_ahead_of_its_frame(self):
        calls = [BEGUN] + frames(0, [1, 2]) + [("fault", 0, 100, 70)] + frames(1, [9, 9])
        given = play(*calls, *handed_on(1), ("state", 0, 2), ("frame", 0, 3), ("state", 0, 3))
        pads = [145, 146, 147]
        self.assertEqual(given[-4:], [[2], summed_machine(pads[:2]), [3, 1], summed_machine(pads, {2: 70})])

    def test_begin_takes_all_away(self):
        calls = [BEGUN] + [("fault", side, 100, 70) for side in (0, 1)] * 10
        given = play(*calls, BEGUN, ("frame", 0, 1), ("frame", 1, 2), ("state", 0, 1), ("state", 1, 1),
                     *[("fault", 0, 100, 1)] * 11)
        self.assertEqual(given[-13:], [summed_machine([1]), summed_machine([32])] + [[1]] * 10 + [[-5]])

    def test_a_refused_begin_takes_none_away(self):
        calls = [BEGUN, ("fault", 0, 100, 70), ("begin", 7, 1, []), ("frame", 0, 1)]
        self.assertEqual(last(*calls, ("state", 0, 1)), summed_machine([1], {0: 70}))


class RunAgain(unittest.TestCase):
    """Side 0 runs four frames with 1 pressed; then side 1's pads come, the first other one of frame 1."""

    PADS = [1, 97, 97, 97]

    def states(self, fault_at):
        calls = [BEGUN]
        for t in range(4):
            if t in fault_at:
                calls.append(("fault", 0, 100, fault_at[t]))
            calls.append(("frame", 0, 1))
        calls += frames(1, [0, 6, 6, 6])
        return play(*calls, *handed_on(1), *[("state", 0, t) for t in range(5)], ("runs", 0), ("now", 0))

    def check(self, faults):
        given = self.states(faults)
        self.assertEqual(given[-8], [3])
        self.assertEqual(given[-7:-2], [summed_machine(self.PADS[:t], faults) for t in range(5)])
        self.assertEqual(given[-2:], [[7], [4, summed(self.PADS, faults)]])

    def test_of_the_first_frame_that_is_run_again(self):
        self.check({1: 70})

    def test_of_a_later_frame(self):
        self.check({2: 70})
        self.check({3: 70})

    def test_of_an_earlier_frame(self):
        self.check({0: 70})

    def test_of_several(self):
        self.check({0: 70, 1: 80, 2: 90, 3: 0})

    def test_of_none(self):
        self.check({})

    def test_again_and_again(self):
        calls = [BEGUN, ("frame", 0, 1), ("fault", 0, 100, 70), ("fault", 0, 50, 7), ("frame", 0, 2), ("frame", 0, 3)]
        pads = [1, 2, 3]
        for t, pad in enumerate((4, 5, 6)):
            calls += [("frame", 1, pad)] + handed_on(1)
            for later in range(t, 3):
                pads[later] = pads[later] % 16 + 16 * pad
            self.assertEqual(last(*calls, ("state", 0, 3)), summed_machine(pads, {1: 70}, {50: 7}))
            self.assertEqual(last(*calls, ("state", 0, 1)), summed_machine(pads[:1]))

    def test_on_side_1_too(self):
        calls = [BEGUN, ("frame", 1, 1), ("fault", 1, 100, 70), ("frame", 1, 2), ("frame", 0, 9), ("frame", 0, 8)]
        given = play(*calls, *handed_on(0), ("state", 1, 0), ("state", 1, 1), ("state", 1, 2))
        pads = [25, 40]
        self.assertEqual(given[-4:], [[2]] + [summed_machine(pads[:t], {1: 70}) for t in range(3)])

    def test_at_place_127(self):
        calls = [BEGUN, ("fault", 0, 127, 99), ("frame", 0, 1), ("frame", 1, 2)]
        self.assertEqual(last(*calls, *handed_on(1), ("state", 0, 1)), summed_machine([33]))


if __name__ == "__main__":
    unittest.main()
