"""The interface: one list in, one list out, and nothing kept."""

import unittest

from helper import SUMMING, coded, machine, mark_of, play, summed, summed_machine
from twopads.games import answers

CALLS = [
    ("begin", 1, 2, SUMMING), ("frame", 0, 3), ("frame", 1, 4), ("frame", 0, 5), ("frame", 0, 16),
    ("send", 0), ("send", 1), ("hand", 1, 1), ("hand", 0, 0), ("lose", 0), ("lose", 0), ("send", 2),
    ("net",), ("now", 0), ("now", 1), ("settled", 0), ("settled", 1), ("begin", 9, 9, [1, 2]),
    ("state", 0, 1), ("pads", 0, 1), ("fault", 0, 100, 70), ("frame", 0, 1), ("send", 1), ("watch", 0), ("send", 0),
    ("watch", 1), ("film",), ("differ", 0), ("differ", 1), ("both",), ("runs", 0), ("runs", 1),
]
# All that can be asked ahead of anything else.
ASKED = [("net",), ("now", 0), ("now", 1), ("settled", 0), ("settled", 1), ("state", 0, 0), ("state", 1, 0),
         ("film",), ("differ", 0), ("differ", 1), ("both",), ("runs", 0), ("runs", 1)]


class Interface(unittest.TestCase):
    def test_counts_and_numbers_in_order(self):
        given = answers([0, 0, 1, 2, 1, 7, 1, 0, 5, 2, 0, 5, 3, 0, 1, 4, 0, 6, 1, 7, 0])
        begun = machine([1, 7])
        self.assertEqual(given, [1, 0, 2, 1, 1, 5, 0, 0, 0, 1, 5, 6, 1, 0, 0, 0, 1, 5, 1, 0, 1, 0,
                                 2, 0, mark_of(begun), 2, 0, mark_of(begun)])

    def test_a_refusal_is_its_number_alone(self):
        given = answers([0, 7, 1, 0, 1, 2, 0, 2, -1, 3, 0, 0, 4, 0, 6, 5, 7, 5])
        self.assertEqual(given, [1, -1, 1, -1, 1, -1, 1, -2, 1, -2, 1, -1, 1, -1])

    def test_all_sixteen_calls_in_one_list(self):
        calls = [0, 0, 2, 3, 1, 7, 0, 10, 1, 50, 6, 1, 0, 5, 1, 1, 9, 2, 1, 2, 0, 5, 11, 0, 11, 1, 3, 0, 1, 3, 1, 0]
        calls += [4, 0, 6, 1, 7, 0, 8, 1, 1, 9, 0, 0, 12, 13, 0, 13, 1, 14, 15, 0, 15, 1]
        game = machine([1, 7, 0], a=7, place=4, z=0, changed={127: 149})
        side_1 = machine([1, 7, 0], a=7, place=4, z=0, changed={50: 6, 127: 149})
        self.assertEqual(answers(calls), (
            [1, 0, 1, 0, 2, 1, 1, 2, 1, 1, 5, 1, 0, 0, 1, 9, 5, 0, 0, 0, 1, 5, 11, 2, 1, 0, 0, 1, 9, 0, 0, 0, 1, 5]
            + [2, 0, mark_of(machine([1, 7, 0])), 2, 1, mark_of(game), 1, 1, 1, 1]
            + [1, 0, 2, 1, mark_of(side_1), 2, 1, mark_of(game), 133] + side_1
            + [3, 5, 9, 0, 2, 1, 149, 2, 0, 1, 2, 1, 1, 2, 1, 1, 1, 2, 1, 2]))

    def test_refusals_of_the_later_calls(self):
        given = answers([8, 2, 0, 8, 0, 1, 9, -1, 0, 9, 1, 0, 10, 0, 128, 0, 11, 0, 13, 2, 15, -1, 12, 14])
        self.assertEqual(given, [1, -1, 1, -3, 1, -1, 1, -3, 1, -1, 1, -2, 1, -1, 1, -1, 1, 0, 2, 0, 0])

    def test_one_call(self):
        self.assertEqual(answers([5]), [1, 0])
        self.assertEqual(answers([12]), [1, 0])
        self.assertEqual(answers([14]), [2, 0, 0])
        self.assertEqual(answers([8, 1, 0]), [133] + machine([]))

    def test_begin_with_200_bytes(self):
        self.assertEqual(answers([0, 0, 1, 200] + [5] * 200 + [5]), [1, -1, 1, 0])

    def test_60_calls(self):
        self.assertEqual(answers([5] * 60), [1, 0] * 60)

    def test_60_of_the_longest_calls(self):
        call = [0, 0, 1, 200] + [5] * 200
        self.assertEqual(answers(call * 60), [1, -1] * 60)

    def test_what_is_handed_in_is_as_it_was(self):
        numbers = coded(CALLS)
        before = list(numbers)
        answers(numbers)
        self.assertEqual(numbers, before)

    def test_the_same_list_twice(self):
        numbers = coded(CALLS)
        self.assertEqual(answers(numbers), answers(numbers))

    def test_nothing_is_kept(self):
        fresh = play(*ASKED)
        play(*CALLS)
        self.assertEqual(play(*ASKED), fresh)

    def test_what_is_given_back_is_ones_own(self):
        numbers = coded(CALLS)
        first = answers(numbers)
        kept = list(first)
        first.clear()
        self.assertEqual(answers(numbers), kept)

    def test_whole_numbers_in_a_list(self):
        given = answers(coded(CALLS))
        self.assertIs(type(given), list)
        self.assertEqual({type(number) for number in given}, {int})

    def test_a_whole_game(self):
        self.assertEqual(play(*CALLS), [
            [0], [1, 0], [1, 0], [2, 1], [-1],
            [0, 1, 1, 2, 3, 5], [1, 1, 1, 1, 4], [1], [0], [0], [-2], [-1],
            [0], [2, summed([0, 67])], [1, summed([0])], [2, summed([0, 67])], [1, summed([0])], [-1],
            summed_machine([0]), [3, 4, 0], [2], [3, 1], [1, 1, 3, 1, 4], [1, summed([0])],
            [0, 1, 2, 3, 3, 5, 1], [2, summed([0, 67])], [2, 0, 67], [0, 2], [0, 1], [0, 1], [3 + 1], [1],
        ])


if __name__ == "__main__":
    unittest.main()
