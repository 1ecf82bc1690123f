"""differ and both: since when a machine is no longer the one that it should be."""

import unittest

from helper import SUMMING, frames, handed_on, last, play

BEGUN = ("begin", 0, 10, SUMMING)

# Every other frame puts 9 at place 60, from frame 0 on.
MENDING = [1, 9, 3, 60, 0, 0, 0, 0, 12, 0]

SENDS = [("send", 0), ("send", 1)]
WATCHED = [("watch", 0), ("watch", 1)]
HANDED = [("hand", 0, 0), ("hand", 0, 0)]
ASKED = [("differ", 0), ("differ", 1), ("both",)]


def run(side, count, faults):
    """So many frames of a side; faults: by frame, the place and the byte."""
    calls = []
    for t in range(count):
        if t in faults:
            calls.append(("fault", side, *faults[t]))
        calls.append(("frame", side, t + 1))
    return calls


def asked_behind(*calls):
    """What differ of side 0, differ of side 1 and both answer."""
    return play(*calls, *ASKED)[-3:]


class AllSettledAndSeen(unittest.TestCase):
    def check(self, faults_0, faults_1, expected, program=SUMMING, count=4):
        calls = [("begin", 0, 10, program)] + run(0, count, faults_0) + run(1, count, faults_1)
        self.assertEqual(asked_behind(*calls, *SENDS, *WATCHED, *HANDED), expected)

    def test_no_fault(self):
        for count in range(7):
            self.check({}, {}, [[0, count]] * 3, count=count)

    def test_of_one_side(self):
        for t in range(4):
            self.check({t: (100, 200)}, {}, [[1, t + 1], [0, 4], [1, t + 1]])
            self.check({}, {t: (100, 200)}, [[0, 4], [1, t + 1], [1, t + 1]])

    def test_of_both_sides_alike(self):
        for t in range(4):
            self.check({t: (100, 200)}, {t: (100, 200)}, [[1, t + 1], [1, t + 1], [0, 4]])

    def test_of_both_sides_not_alike(self):
        self.check({2: (100, 200)}, {2: (100, 201)}, [[1, 3], [1, 3], [1, 3]])
        self.check({2: (100, 200)}, {2: (50, 200)}, [[1, 3], [1, 3], [1, 3]])

    def test_of_both_sides_at_different_frames(self):
        self.check({1: (100, 200)}, {3: (100, 200)}, [[1, 2], [1, 4], [1, 2]])
        self.check({3: (50, 200)}, {0: (50, 200)}, [[1, 4], [1, 1], [1, 1]])
        # From frame 4 on both have the same byte: only the first frame counts.
        self.check({3: (50, 200)}, {2: (50, 200)}, [[1, 4], [1, 3], [1, 3]], count=5)

    def test_of_both_alike_then_of_one(self):
        self.check({1: (50, 2), 3: (51, 2)}, {1: (50, 2)}, [[1, 2], [1, 2], [1, 4]])

    def test_several_of_one_side(self):
        self.check({1: (50, 2), 2: (51, 3)}, {}, [[1, 2], [0, 4], [1, 2]])

    def test_the_first_is_found_though_the_next_undoes_it(self):
        self.check({1: (50, 2), 2: (50, 0)}, {}, [[1, 2], [0, 4], [1, 2]])

    def test_one_that_changes_nothing(self):
        self.check({1: (50, 0)}, {2: (127, 77)}, [[0, 4], [0, 4], [0, 4]])

    def test_one_that_the_program_puts_right_in_its_frame(self):
        self.check({0: (60, 5), 2: (60, 5)}, {}, [[0, 4], [0, 4], [0, 4]], program=MENDING)

    def test_one_that_the_program_puts_right_later(self):
        self.check({1: (60, 5)}, {}, [[1, 2], [0, 4], [1, 2]], program=MENDING)
        self.check({}, {1: (60, 5)}, [[0, 5], [1, 2], [1, 2]], program=MENDING, count=5)

    def test_one_that_is_put_right_and_comes_again(self):
        self.check({0: (60, 5), 3: (60, 5)}, {}, [[1, 4], [0, 5], [1, 4]], program=MENDING, count=5)

    def test_all_of_the_machine_counts(self):
        # x is x and the byte at place 1, which is then put back to 0: behind the frame only x is another one.
        self.check({1: (1, 5)}, {}, [[1, 2], [0, 4], [1, 2]], program=[7, 0, 1, 0, 3, 1, 0, 0, 12, 0])

    def test_a_place_in_the_program(self):
        self.check({}, {2: (0, 0)}, [[0, 4], [1, 3], [1, 3]])

    def test_a_fault_that_is_told_but_whose_frame_is_not_run(self):
        calls = [BEGUN] + run(0, 3, {}) + run(1, 3, {}) + [("fault", 0, 100, 99), ("fault", 1, 100, 98)]
        self.assertEqual(asked_behind(*calls, *SENDS, *WATCHED, *HANDED), [[0, 3]] * 3)


class NotAllSettledOrSeen(unittest.TestCase):
    def test_nothing_at_all(self):
        self.assertEqual(play(*ASKED), [[0, 0]] * 3)
        self.assertEqual(asked_behind(BEGUN), [[0, 0]] * 3)

    def test_nothing_settled(self):
        calls = [BEGUN] + run(0, 3, {0: (50, 1)}) + run(1, 3, {0: (51, 1)}) + SENDS
        self.assertEqual(asked_behind(*calls), [[0, 0]] * 3)
        self.assertEqual(asked_behind(*calls, *WATCHED), [[0, 0]] * 3)

    def test_nothing_seen(self):
        calls = [BEGUN] + run(0, 3, {0: (50, 1)}) + run(1, 3, {}) + SENDS + HANDED
        self.assertEqual(asked_behind(*calls), [[0, 0], [0, 0], [1, 1]])
        calls = [BEGUN] + run(0, 3, {}) + run(1, 3, {}) + SENDS + HANDED
        self.assertEqual(asked_behind(*calls), [[0, 0], [0, 0], [0, 3]])

    def test_settled_on_one_side_only(self):
        calls = [BEGUN] + run(0, 3, {1: (50, 1)}) + run(1, 3, {1: (51, 1)}) + SENDS + WATCHED
        self.assertEqual(asked_behind(*calls, ("hand", 0, 0)), [[0, 0], [1, 2], [0, 0]])
        self.assertEqual(asked_behind(*calls, ("hand", 1, 0)), [[1, 2], [0, 0], [0, 0]])

    def test_read_from_one_side_only(self):
        calls = [BEGUN] + run(0, 3, {1: (50, 1)}) + run(1, 3, {}) + SENDS
        for k in (0, 1):
            self.assertEqual(asked_behind(*calls, ("watch", k), *HANDED), [[0, 0], [0, 0], [1, 2]])

    def test_fewer_seen_than_settled(self):
        for seen in range(5):
            for fault in range(4):
                calls = [BEGUN] + run(0, 4, {fault: (50, 1)}) + frames(1, [3] * seen) + SENDS + WATCHED
                calls += frames(1, [3] * (4 - seen)) + HANDED + handed_on(1)
                expected = [1, fault + 1] if fault < seen else [0, seen]
                self.assertEqual(asked_behind(*calls), [expected, [0, seen], [1, fault + 1]], (seen, fault))

    def test_fewer_settled_than_seen(self):
        for settled in range(5):
            for fault in range(4):
                calls = [BEGUN] + run(0, 4, {fault: (50, 1)}) + frames(1, [3] * settled) + handed_on(1)
                calls += frames(1, [3] * (4 - settled)) + SENDS + WATCHED + [("hand", 0, 0)]
                expected = [1, fault + 1] if fault < settled else [0, settled]
                self.assertEqual(asked_behind(*calls), [expected, [0, 4], expected], (settled, fault))

    def test_settled_is_no_more_than_is_run(self):
        calls = [BEGUN] + run(0, 2, {1: (50, 1)}) + run(1, 4, {}) + SENDS + WATCHED + HANDED
        self.assertEqual(asked_behind(*calls), [[1, 2], [0, 2], [1, 2]])
        calls = [BEGUN] + run(0, 1, {}) + run(1, 4, {2: (50, 1)}) + SENDS + WATCHED + HANDED
        self.assertEqual(asked_behind(*calls), [[0, 1], [0, 1], [0, 1]])

    def test_more_is_seen_as_more_is_read(self):
        calls = [BEGUN] + run(0, 1, {}) + frames(1, [9]) + SENDS + run(0, 2, {1: (50, 1)}) + frames(1, [9, 9]) + SENDS
        calls += [("hand", 2, 1), ("hand", 3, 1)]
        given = play(*calls, ("watch", 0), *ASKED, ("watch", 1), *ASKED, ("watch", 2), *ASKED, ("watch", 3), *ASKED)
        given = given[len(calls):]
        differ_0 = [given[at] for at in (1, 5, 9, 13)]
        differ_1 = [given[at] for at in (2, 6, 10, 14)]
        self.assertEqual(differ_0, [[0, 0], [0, 1], [0, 1], [1, 3]])
        self.assertEqual(differ_1, [[0, 0], [0, 1], [0, 1], [0, 3]])
        self.assertEqual([given[at] for at in (3, 7, 11, 15)], [[1, 3]] * 4)

    def test_a_wrong_guess_is_no_fault(self):
        calls = [BEGUN] + run(0, 4, {}) + frames(1, [5]) + SENDS + WATCHED + [("hand", 1, 0)]
        # Frames 1 to 3 of side 0 are guesses still.
        calls += frames(1, [0, 7, 8]) + [("send", 1), ("watch", 1)]
        self.assertEqual(asked_behind(*calls), [[0, 1], [0, 0], [0, 0]])
        self.assertEqual(asked_behind(*calls, ("hand", 1, 0)), [[0, 4], [0, 0], [0, 0]])

    def test_a_gap_in_what_is_seen(self):
        calls = [BEGUN] + run(0, 2, {0: (50, 1)}) + [("send", 0), ("hand", 0, 1), ("send", 1), ("hand", 1, 0)]
        calls += frames(0, [3, 4]) + frames(1, [5, 6, 7, 8]) + SENDS + [("hand", 1, 1), ("hand", 2, 1)]
        self.assertEqual(asked_behind(*calls, ("watch", 1), ("watch", 2)), [[0, 0], [0, 0], [1, 1]])
        self.assertEqual(asked_behind(*calls, ("watch", 1), ("watch", 2), ("watch", 0)), [[1, 1], [0, 4], [1, 1]])

    def test_with_a_delay(self):
        begun = ("begin", 2, 10, SUMMING)
        self.assertEqual(asked_behind(begun), [[0, 0]] * 3)
        calls = [begun] + run(0, 1, {0: (50, 1)}) + run(1, 2, {})
        # The first frames are settled and seen at once.
        self.assertEqual(asked_behind(*calls), [[1, 1], [0, 2], [1, 1]])
        calls = [begun] + run(0, 4, {1: (50, 1)}) + run(1, 4, {3: (50, 1)})
        self.assertEqual(asked_behind(*calls), [[1, 2], [0, 2], [1, 2]])
        self.assertEqual(asked_behind(*calls, *SENDS, *WATCHED, *HANDED), [[1, 2], [1, 4], [1, 2]])

    def test_what_is_run_again_has_its_fault_again(self):
        calls = [BEGUN] + run(0, 4, {2: (100, 200)}) + frames(1, [9, 8, 7, 6])
        given = asked_behind(*calls, *SENDS, *WATCHED, *HANDED)
        self.assertEqual(given, [[1, 3], [0, 4], [1, 3]])

    def test_behind_a_begin(self):
        calls = [BEGUN] + run(0, 3, {1: (50, 1)}) + run(1, 3, {}) + SENDS + WATCHED + HANDED
        self.assertEqual(asked_behind(*calls), [[1, 2], [0, 3], [1, 2]])
        self.assertEqual(asked_behind(*calls, BEGUN), [[0, 0]] * 3)
        again = [BEGUN] + run(0, 3, {}) + run(1, 3, {}) + SENDS + WATCHED + HANDED
        self.assertEqual(asked_behind(*calls, *again), [[0, 3]] * 3)

    def test_no_other_sides(self):
        calls = [BEGUN] + run(0, 3, {1: (50, 1)}) + run(1, 3, {}) + SENDS + WATCHED + HANDED
        for side in (-1, 2, 1000000, -1000000):
            self.assertEqual(last(*calls, ("differ", side)), [-1])

    def test_asking_changes_nothing(self):
        calls = [BEGUN] + run(0, 3, {1: (50, 1)}) + run(1, 3, {}) + SENDS + WATCHED + HANDED
        look = [("film",), ("net",), ("now", 0), ("now", 1), ("runs", 0), ("frame", 0, 1), ("now", 0), ("both",)]
        given = play(*calls, *ASKED, *ASKED, *look)
        self.assertEqual(given[-len(look):], play(*calls, *look)[-len(look):])


if __name__ == "__main__":
    unittest.main()
