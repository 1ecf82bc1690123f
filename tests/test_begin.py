"""Promise 1: begin, and every call with a side."""

import unittest

from helper import SUMMING, last, machine, mark_of, play, summed

# A game in which something of everything is there; behind it, LOOK shows all that can be asked of it.
MIDST = [
    ("begin", 1, 3, SUMMING),
    ("frame", 0, 5), ("frame", 0, 6), ("frame", 1, 7),
    ("send", 0), ("send", 1), ("hand", 1, 1), ("watch", 0), ("watch", 1),
    ("fault", 0, 100, 9), ("frame", 0, 8), ("fault", 0, 101, 10), ("fault", 1, 102, 11),
]
LOOK = [
    ("net",), ("now", 0), ("now", 1), ("settled", 0), ("settled", 1), ("state", 0, 0), ("state", 1, 0),
    ("pads", 0, 0), ("pads", 1, 0), ("film",), ("differ", 0), ("differ", 1), ("both",), ("runs", 0), ("runs", 1),
]


def fresh(delay, some_bytes):
    """What LOOK answers ahead of all frames."""
    loaded = machine(some_bytes)
    return ([[0]] + [[0, mark_of(loaded)]] * 4 + [loaded] * 2 + [[-3]] * 2
            + [[delay] + [0] * delay] + [[0, 0]] * 3 + [[0]] * 2)


FRESH = fresh(0, [])


def look_behind(*calls):
    return play(*calls, *LOOK)[-len(LOOK):]


class AtTheBeginning(unittest.TestCase):
    def test_as_the_words_tell(self):
        self.assertEqual(look_behind(), FRESH)

    def test_no_delay_and_ahead_by_1(self):
        given = play(("frame", 0, 3), ("frame", 0, 3), ("send", 0), ("send", 1))
        self.assertEqual(given, [[1, 1], [-6], [0, 0, 0, 1, 3], [1, 0, 0, 0]])

    def test_no_letters(self):
        self.assertEqual(play(("hand", 0, 1), ("lose", 0)), [[-2], [-2]])


class Begin(unittest.TestCase):
    def test_answers_0(self):
        self.assertEqual(play(("begin", 2, 3, [1, 2, 3])), [[0]])

    def test_edges(self):
        for delay in (0, 6):
            for ahead in (1, 10):
                for some_bytes in ([], [0], [255], [0] * 128, [255] * 128):
                    given = play(("begin", delay, ahead, some_bytes), *LOOK)
                    self.assertEqual(given, [[0]] + fresh(delay, some_bytes))

    def test_delay_counts(self):
        for delay in range(7):
            given = play(("begin", delay, 1, []), ("send", 0), ("send", 1))
            self.assertEqual(given, [[0], [0, delay, delay, 0], [1, delay, delay, 0]])

    def test_ahead_counts(self):
        for ahead in range(1, 11):
            calls = [("begin", 0, ahead, [])] + [("frame", 1, 0)] * (ahead + 1)
            given = play(*calls)
            self.assertEqual(given[1:-1], [[t, 1] for t in range(1, ahead + 1)])
            self.assertEqual(given[-1], [-6])

    def test_both_machines_are_loaded(self):
        given = play(("begin", 0, 1, SUMMING), ("frame", 0, 5), ("now", 0), ("frame", 1, 2), ("now", 1))
        self.assertEqual(given, [[0], [1, 1], [1, summed([5])], [1, 1], [1, summed([32])]])

    def test_in_the_midst_of_a_game(self):
        self.assertNotEqual(look_behind(*MIDST), FRESH)
        self.assertEqual(look_behind(*MIDST, ("begin", 0, 1, [])), FRESH)

    def test_in_the_midst_everything_is_new(self):
        anew = [("begin", 2, 2, SUMMING), ("frame", 0, 1), ("send", 0), ("send", 1), ("frame", 1, 2), ("hand", 0, 0)]
        anew += [("frame", 0, 3)] * 5 + [("frame", 1, 3)] * 3 + [("send", 1), ("watch", 0), ("send", 0), ("watch", 1)]
        self.assertEqual(play(*MIDST, *anew, *LOOK)[len(MIDST):], play(*anew, *LOOK))

    def test_the_same_bytes_again(self):
        given = play(("begin", 0, 2, SUMMING), ("frame", 0, 9), ("begin", 0, 2, SUMMING), ("now", 0))
        self.assertEqual(given[-1], [0, summed([])])


class BeginRefused(unittest.TestCase):
    WRONG = [
        ("begin", -1, 1, []), ("begin", 7, 1, []),
        ("begin", 0, 0, []), ("begin", 0, 11, []), ("begin", 0, -1, []),
        ("begin", 0, 1, [0] * 129), ("begin", 0, 1, [0] * 200),
        ("begin", 0, 1, [-1]), ("begin", 0, 1, [256]),
        ("begin", 0, 1, [0] * 127 + [256]), ("begin", 0, 1, [-1] + [0] * 127), ("begin", 0, 1, [1, 256, 1]),
        ("begin", 0, 1, [256] * 129),
        ("begin", 1000000, 1, []), ("begin", 0, -1000000, []), ("begin", 0, 1, [1000000]),
        ("begin", 7, 11, [256]),
    ]

    def test_answers_minus_1(self):
        for wrong in self.WRONG:
            self.assertEqual(play(wrong), [[-1]], wrong)

    def test_the_game_is_as_it_was(self):
        goes_on = [("frame", 1, 4), ("frame", 0, 1), ("frame", 0, 1), ("frame", 0, 1), ("hand", 0, 0), ("send", 1)]
        goes_on += [("hand", 0, 0), ("hand", 0, 0), ("both",)]
        expected = play(*MIDST, *goes_on, *LOOK)
        for wrong in self.WRONG:
            given = play(*MIDST, wrong, *goes_on, *LOOK)
            self.assertEqual(given.pop(len(MIDST)), [-1], wrong)
            self.assertEqual(given, expected, wrong)

    def test_at_the_beginning_it_stays_as_at_the_beginning(self):
        for wrong in self.WRONG:
            self.assertEqual(look_behind(wrong), FRESH, wrong)

    def test_what_follows_the_bytes_is_read(self):
        given = play(("begin", 0, 1, [1] * 200), ("begin", 0, 1, [1]), ("now", 1))
        self.assertEqual(given, [[-1], [0], [0, mark_of(machine([1]))]])


class CallsWithASide(unittest.TestCase):
    def calls(self, side):
        return [("frame", side, 3), ("send", side), ("now", side), ("settled", side), ("state", side, 0),
                ("pads", side, 0), ("fault", side, 0, 0), ("differ", side), ("runs", side)]

    def test_sides_0_and_1(self):
        for side in (0, 1):
            for call in self.calls(side):
                self.assertGreaterEqual(last(*MIDST, call)[0], 0, call)

    def test_no_other_sides(self):
        for side in (-1, 2, -2, 3, 1000000, -1000000):
            for call in self.calls(side):
                self.assertEqual(last(call), [-1], call)
                self.assertEqual(last(*MIDST, call), [-1], call)
                # The frames show that no fault was told.
                later = [("frame", 0, 1), ("frame", 1, 1)]
                self.assertEqual(look_behind(*MIDST, call, *later), look_behind(*MIDST, *later), call)

    def test_each_side_answers_for_itself(self):
        given = play(("begin", 0, 5, SUMMING), ("frame", 1, 1), ("frame", 1, 2), ("frame", 0, 3),
                     ("now", 0), ("now", 1), ("send", 0), ("send", 1))
        self.assertEqual(given[1:], [[1, 1], [2, 1], [1, 1], [1, summed([3])], [2, summed([16, 32])],
                                     [0, 0, 0, 1, 3], [1, 0, 0, 2, 1, 2]])


if __name__ == "__main__":
    unittest.main()
