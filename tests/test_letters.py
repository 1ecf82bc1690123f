"""Promise 2, of send, hand and lose; and the net: what letters tell and what becomes of them."""

import unittest

from helper import SUMMING, frames, last, play, summed

BEGUN = ("begin", 0, 10, SUMMING)


class Send(unittest.TestCase):
    def test_a_letter_without_pads(self):
        self.assertEqual(play(("send", 0), ("send", 1)), [[0, 0, 0, 0], [1, 0, 0, 0]])

    def test_as_many_pads_as_there_are_and_6_at_most(self):
        pads = [9, 8, 7, 6, 5, 4, 3, 2]
        for count in range(9):
            told = pads[:min(count, 6)]
            given = last(BEGUN, *frames(1, pads[:count]), ("send", 1))
            self.assertEqual(given, [1, 0, 0, len(told)] + told)

    def test_how_many_are_known(self):
        calls = [BEGUN] + frames(1, [1, 2, 3]) + [("send", 1), ("hand", 0, 0)]
        self.assertEqual(last(*calls, ("send", 0)), [0, 0, 3, 0])

    def test_it_begins_where_the_other_is_not_known_to_know(self):
        calls = [BEGUN] + frames(0, [1, 2, 3]) + [("send", 0), ("hand", 0, 0)]
        # The other knows three, but that hasn't come back yet.
        self.assertEqual(last(*calls, ("send", 0)), [0, 0, 0, 3, 1, 2, 3])
        calls += [("send", 1)]
        self.assertEqual(last(*calls, ("send", 0)), [0, 0, 0, 3, 1, 2, 3])
        calls += [("hand", 0, 0)]
        self.assertEqual(last(*calls, ("send", 0)), [0, 3, 0, 0])
        self.assertEqual(last(*calls, ("frame", 0, 4), ("send", 0)), [0, 3, 0, 1, 4])

    def test_the_greatest_that_came_counts(self):
        calls = [BEGUN] + frames(0, [1, 2, 3])
        calls += [("send", 1), ("send", 0), ("hand", 1, 0), ("send", 1)]
        # The later letter, which tells 3, comes first; the one that tells 0 then changes nothing.
        calls += [("hand", 1, 0), ("hand", 0, 0)]
        self.assertEqual(last(*calls, ("send", 0)), [0, 3, 0, 0])

    def test_more_than_6_pads_in_several_steps(self):
        pads = [1, 2, 3, 4, 5, 6, 7, 8, 9, 10]
        calls = [BEGUN] + frames(0, pads)
        given = play(*calls, ("send", 0), ("hand", 0, 0), ("send", 1), ("hand", 0, 0), ("send", 0))
        self.assertEqual(given[-5:], [[0, 0, 0, 6] + pads[:6], [0], [1, 0, 6, 0], [0], [0, 6, 0, 4] + pads[6:]])

    def test_in_three_steps_the_sides_have_one_game(self):
        pads = [1, 2, 3, 4, 5, 6, 7, 8, 9, 10]
        calls = [("begin", 6, 10, SUMMING)] + frames(0, pads + pads[:6])
        step = [("send", 0), ("hand", 0, 0), ("send", 1), ("hand", 0, 0)]
        given = play(*calls, *step, *step, *step, ("send", 0), *frames(1, [0] * 16), ("now", 1), ("settled", 1))
        self.assertEqual(given[-19], [0, 22, 6, 0])
        behind = [16, summed([0] * 6 + pads)]
        self.assertEqual(given[-2:], [behind, behind])

    def test_29_and_30_letters(self):
        for side in (0, 1):
            calls = [("frame", side, 5)] + [("send", side)] * 29
            self.assertEqual(last(*calls, ("send", side)), [side, 0, 0, 1, 5])
            full = calls + [("send", side)]
            given = play(*full, ("send", side), ("send", 1 - side), ("net",))
            self.assertEqual(given[-3:-1], [[-5], [-5]])
            self.assertEqual(given[-1], [30] + [side, 0, 0, 1, 5] * 30)

    def test_a_letter_less_makes_room(self):
        full = [("send", 0)] * 30
        for call in (("lose", 3), ("hand", 3, 0)):
            self.assertEqual(play(*full, call, ("send", 1), ("send", 1))[-2:], [[1, 0, 0, 0], [-5]])
        self.assertEqual(last(*full, ("hand", 3, 1), ("send", 1)), [-5])

    def test_which_refusal_counts(self):
        full = [("send", 0)] * 30
        self.assertEqual(play(*full, ("send", -1), ("send", 2), ("send", 1))[-3:], [[-1], [-1], [-5]])

    def test_a_letter_stays_as_it_was_sent(self):
        calls = [BEGUN, ("frame", 0, 1), ("send", 0), ("frame", 0, 2), ("frame", 1, 3), ("send", 1), ("hand", 1, 0)]
        self.assertEqual(last(*calls, ("net",)), [1, 0, 0, 0, 1, 1])


class Net(unittest.TestCase):
    def test_empty(self):
        self.assertEqual(play(("net",)), [[0]])

    def test_in_the_order_in_which_they_were_sent(self):
        calls = [BEGUN, ("frame", 0, 1), ("send", 0), ("frame", 1, 2), ("send", 1), ("frame", 0, 3), ("send", 0)]
        letters = [[0, 0, 0, 1, 1], [1, 0, 0, 1, 2], [0, 0, 0, 2, 1, 3]]
        self.assertEqual(last(*calls, ("net",)), [3] + letters[0] + letters[1] + letters[2])
        self.assertEqual(last(*calls, ("lose", 1), ("net",)), [2] + letters[0] + letters[2])
        self.assertEqual(last(*calls, ("hand", 0, 0), ("net",)), [2] + letters[1] + letters[2])
        self.assertEqual(last(*calls, ("hand", 0, 1), ("net",)), [3] + letters[0] + letters[1] + letters[2])

    def test_a_new_letter_lies_behind_the_others(self):
        calls = [("send", 0), ("send", 1), ("lose", 0), ("send", 0)]
        self.assertEqual(last(*calls, ("net",)), [2, 1, 0, 0, 0, 0, 0, 0, 0])

    def test_letters_are_numbered_as_they_lie(self):
        calls = [BEGUN, ("send", 0), ("frame", 0, 1), ("send", 0), ("frame", 0, 2), ("send", 0), ("lose", 0)]
        self.assertEqual(last(*calls, ("lose", 1), ("net",)), [1, 0, 0, 0, 1, 1])
        self.assertEqual(last(*calls, ("lose", 2)), [-2])


class Hand(unittest.TestCase):
    def test_it_lies_on_or_is_gone(self):
        calls = [BEGUN, ("frame", 0, 5), ("frame", 1, 1), ("send", 0)]
        self.assertEqual(play(*calls, ("hand", 0, 1), ("net",))[-2:], [[1], [1, 0, 0, 0, 1, 5]])
        self.assertEqual(play(*calls, ("hand", 0, 0), ("net",))[-2:], [[1], [0]])

    def test_neither_1_nor_0(self):
        calls = [BEGUN, ("frame", 0, 5), ("frame", 1, 1), ("send", 0)]
        look = [("net",), ("now", 0), ("now", 1), ("settled", 0), ("settled", 1), ("send", 1)]
        for stays in (2, -1, 1000000, -1000000):
            given = play(*calls, ("hand", 0, stays), *look)
            self.assertEqual(given[len(calls):], [[-1]] + play(*calls, *look)[len(calls):])

    def test_no_letter_k(self):
        calls = [BEGUN, ("frame", 0, 5), ("frame", 1, 1), ("send", 0), ("send", 1)]
        look = [("net",), ("now", 0), ("now", 1), ("settled", 0), ("settled", 1), ("send", 0), ("send", 1)]
        for k in (2, -1, -2, 3, 1000000, -1000000):
            for call in (("hand", k, 0), ("hand", k, 1), ("lose", k)):
                given = play(*calls, call, *look)
                self.assertEqual(given[len(calls):], [[-2]] + play(*calls, *look)[len(calls):], call)

    def test_every_letter_that_is_there(self):
        calls = [("send", 0), ("send", 1), ("send", 0)]
        for k in range(3):
            for stays in (0, 1):
                self.assertEqual(last(*calls, ("hand", k, stays)), [0])

    def test_which_refusal_counts(self):
        self.assertEqual(play(("hand", 0, 2), ("hand", -1, -1), ("hand", 0, 0)), [[-1], [-1], [-2]])

    def test_it_goes_to_the_other_side(self):
        calls = [BEGUN, ("frame", 0, 5), ("frame", 1, 6)]
        given = play(*calls, ("send", 0), ("hand", 0, 0), ("now", 0), ("now", 1))
        self.assertEqual(given[-2:], [[1, summed([5])], [1, summed([5 + 96])]])
        given = play(*calls, ("send", 1), ("hand", 0, 0), ("now", 0), ("now", 1))
        self.assertEqual(given[-2:], [[1, summed([5 + 96])], [1, summed([96])]])


class Lose(unittest.TestCase):
    def test_how_many_there_are_then(self):
        calls = [("send", 0), ("send", 1), ("send", 0)]
        given = play(*calls, ("lose", 1), ("lose", 1), ("lose", 1), ("lose", 0), ("lose", 0))
        self.assertEqual(given[3:], [[2], [1], [-2], [0], [-2]])

    def test_what_is_lost_does_not_come(self):
        calls = [BEGUN, ("frame", 0, 5), ("frame", 1, 1), ("send", 0), ("lose", 0)]
        given = play(*calls, ("settled", 1), ("now", 1), ("send", 1))
        self.assertEqual(given[-3:], [[0, summed([])], [1, summed([16])], [1, 0, 0, 1, 1]])

    def test_the_next_letter_tells_it_again(self):
        calls = [BEGUN, ("frame", 0, 5), ("send", 0), ("lose", 0), ("frame", 0, 6)]
        self.assertEqual(last(*calls, ("send", 0)), [0, 0, 0, 2, 5, 6])


class LateTwiceOutOfOrder(unittest.TestCase):
    """Side 0 sends a letter behind each of three frames; whatever becomes of them, the game is one."""

    CALLS = [BEGUN, ("frame", 0, 5), ("send", 0), ("frame", 0, 6), ("send", 0), ("frame", 0, 7), ("send", 0)]
    CALLS += frames(1, [1, 1, 1])
    END = [3, summed([16 + 5, 16 + 6, 16 + 7])]

    def check(self, calls, again):
        given = play(*self.CALLS, *calls, ("now", 1), ("settled", 1))
        self.assertEqual(given[len(self.CALLS):-2], [[number] for number in again])
        self.assertEqual(given[-2:], [self.END, self.END])

    def test_in_order(self):
        self.check([("hand", 0, 0), ("hand", 0, 0), ("hand", 0, 0)], [3, 2, 1])

    def test_out_of_order(self):
        self.check([("hand", 2, 0), ("hand", 1, 0), ("hand", 0, 0)], [3, 0, 0])
        self.check([("hand", 1, 1), ("hand", 0, 1), ("hand", 2, 1)], [3, 0, 1])

    def test_twice(self):
        self.check([("hand", 2, 1), ("hand", 2, 1), ("hand", 2, 0)], [3, 0, 0])
        self.check([("hand", 0, 1), ("hand", 0, 1), ("hand", 1, 1), ("hand", 0, 0), ("hand", 1, 0)], [3, 0, 2, 0, 1])

    def test_some_not_at_all(self):
        self.check([("lose", 0), ("lose", 0), ("hand", 0, 0)], [2, 1, 3])

    def test_late(self):
        later = [("frame", 1, 2)] * 4
        given = play(*self.CALLS, *later, ("hand", 2, 0), ("now", 1), ("settled", 1))
        pads = [16 + 5, 16 + 6, 16 + 7] + [32 + 7] * 4
        self.assertEqual(given[-3:], [[7], [7, summed(pads)], self.END])

    def test_an_old_letter_tells_no_less_than_is_known(self):
        calls = self.CALLS + [("hand", 2, 0), ("hand", 0, 0), ("send", 1)]
        self.assertEqual(last(*calls), [1, 0, 3, 3, 1, 1, 1])


if __name__ == "__main__":
    unittest.main()
