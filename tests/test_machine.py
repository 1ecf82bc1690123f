"""The machine: loading, the sixteen instructions, a frame, the mark."""

import unittest

from helper import last, machine, mark_of, play
from twopads.machine import Machine, behind_frame, loaded, mark


def behind(program, pad=0, frames=1):
    """What now answers of side 0, loaded with the program, behind frames with this pad."""
    calls = [("begin", 0, 10, program)] + [("frame", 0, pad)] * frames + [("now", 0)]
    return last(*calls)


class Instructions(unittest.TestCase):
    def check(self, program, pad=0, frames=1, changed=None, **numbers):
        all_changed = {127: pad}
        all_changed.update(changed or {})
        expected = machine(program, changed=all_changed, **numbers)
        numbers_then = loaded(list(program))
        for frame in range(frames):
            numbers_then = behind_frame(numbers_then, pad)
        self.assertEqual(numbers_then, expected)
        self.assertEqual(behind(program, pad, frames), [frames, mark_of(expected)])

    def test_0_rest_goes_two_further(self):
        self.check([], place=2)
        self.check([0, 99], place=2)
        self.check([], place=6, frames=3)

    def test_0_rest_leaves_z_and_c(self):
        self.check([9, 0, 0, 0], place=4, a=247, z=0, c=1)

    def test_first_byte_counts_modulo_16(self):
        self.check([16, 5, 1, 7], place=2)
        self.check([241, 7], place=4, a=7, z=0)

    def test_1_a_is_n(self):
        self.check([1, 7], place=4, a=7, z=0)
        self.check([1, 255], place=4, a=255, z=0)
        self.check([1, 7, 1, 0], place=6, a=0, z=1)
        self.check([9, 0, 1, 7], place=6, a=7, z=0, c=1)

    def test_2_a_is_the_byte_at_n(self):
        self.check([2, 6, 0, 0, 0, 0, 200], place=4, a=200, z=0)
        self.check([2, 134, 0, 0, 0, 0, 200], place=4, a=200, z=0)
        self.check([1, 5, 2, 100], place=6, a=0, z=1)
        self.check([9, 0, 2, 100], place=6, a=0, z=1, c=1)

    def test_3_a_is_put_at_n(self):
        self.check([1, 9, 3, 50], place=6, a=9, z=0, changed={50: 9})
        self.check([1, 9, 3, 178], place=6, a=9, z=0, changed={50: 9})

    def test_3_leaves_z_and_c(self):
        self.check([1, 9, 6, 0, 3, 50], place=8, a=9, z=1, changed={50: 9})
        self.check([6, 1, 3, 50], place=6, x=1, z=0)
        self.check([9, 0, 3, 50], place=6, a=247, z=0, c=1, changed={50: 247})

    def test_4_a_is_the_byte_at_n_and_x(self):
        self.check([6, 3, 4, 5, 0, 0, 0, 0, 77], place=6, a=77, x=3, z=0)
        self.check([6, 200, 4, 64, 0, 0, 0, 0, 77], place=6, a=77, x=200, z=0)
        self.check([6, 255, 4, 255, 0], place=6, a=0, x=255, z=1)
        self.check([9, 0, 6, 3, 4, 5, 0, 0, 77], place=8, a=77, x=3, z=0, c=1)

    def test_5_a_is_put_at_n_and_x(self):
        self.check([1, 9, 6, 3, 5, 50], place=8, a=9, x=3, z=0, changed={53: 9})
        self.check([1, 9, 6, 255, 5, 51], place=8, a=9, x=255, z=0, changed={50: 9})

    def test_5_leaves_z_and_c(self):
        self.check([1, 9, 6, 0, 5, 50], place=8, a=9, z=1, changed={50: 9})
        self.check([9, 0, 6, 1, 5, 50], place=8, a=247, x=1, z=0, c=1, changed={51: 247})

    def test_6_x_is_n(self):
        self.check([6, 255], place=4, x=255, z=0)
        self.check([6, 1, 6, 0], place=6, x=0, z=1)
        self.check([9, 0, 6, 1], place=6, a=247, x=1, z=0, c=1)

    def test_7_x_is_x_and_n(self):
        self.check([6, 200, 7, 55], place=6, x=255, z=0)
        self.check([6, 200, 7, 56], place=6, x=0, z=1)
        self.check([6, 200, 7, 57], place=6, x=1, z=0)
        self.check([9, 0, 6, 200, 7, 5], place=8, a=247, x=205, z=0, c=1)

    def test_8_a_is_a_and_the_byte_at_n(self):
        self.check([1, 200, 8, 8, 0, 0, 0, 0, 55], place=6, a=255, z=0, c=0)
        self.check([1, 200, 8, 8, 0, 0, 0, 0, 56], place=6, a=0, z=1, c=1)
        self.check([1, 200, 8, 8, 0, 0, 0, 0, 57], place=6, a=1, z=0, c=1)
        self.check([1, 200, 8, 136, 0, 0, 0, 0, 57], place=6, a=1, z=0, c=1)
        self.check([9, 0, 1, 200, 8, 8, 0, 0, 55], place=8, a=255, z=0, c=0)

    def test_9_a_is_a_less_the_byte_at_n(self):
        self.check([1, 5, 9, 8, 0, 0, 0, 0, 4], place=6, a=1, z=0, c=0)
        self.check([1, 5, 9, 8, 0, 0, 0, 0, 5], place=6, a=0, z=1, c=0)
        self.check([1, 5, 9, 8, 0, 0, 0, 0, 6], place=6, a=255, z=0, c=1)
        self.check([1, 5, 9, 136, 0, 0, 0, 0, 6], place=6, a=255, z=0, c=1)
        self.check([9, 0, 1, 5, 9, 8, 0, 0, 5], place=8, a=0, z=1, c=0)

    def test_10_a_is_a_and_bit_by_bit(self):
        self.check([1, 12, 10, 8, 0, 0, 0, 0, 10], place=6, a=8, z=0)
        self.check([1, 12, 10, 8, 0, 0, 0, 0, 3], place=6, a=0, z=1)
        self.check([1, 12, 10, 136, 0, 0, 0, 0, 10], place=6, a=8, z=0)
        self.check([9, 0, 10, 8, 0, 0, 0, 0, 10], place=6, a=247 & 10, z=0, c=1)

    def test_11_a_is_a_exclusive_or_bit_by_bit(self):
        self.check([1, 12, 11, 8, 0, 0, 0, 0, 10], place=6, a=6, z=0)
        self.check([1, 12, 11, 8, 0, 0, 0, 0, 12], place=6, a=0, z=1)
        self.check([1, 12, 11, 136, 0, 0, 0, 0, 10], place=6, a=6, z=0)
        self.check([9, 0, 11, 8, 0, 0, 0, 0, 247], place=6, a=0, z=1, c=1)

    def test_12_jumps_always(self):
        self.check([12, 6, 0, 0, 0, 0, 1, 5], place=10, a=5, z=0)
        self.check([12, 134, 0, 0, 0, 0, 1, 5], place=10, a=5, z=0)
        self.check([9, 0, 12, 8, 0, 0, 0, 0, 0], place=10, a=247, z=0, c=1)

    def test_13_jumps_if_z_is_set(self):
        self.check([13, 6, 0, 0, 0, 0, 6, 5], place=10, x=5, z=0)
        self.check([13, 134, 0, 0, 0, 0, 6, 5], place=10, x=5, z=0)
        self.check([13, 20], place=22, z=1)
        self.check([1, 1, 13, 20], place=6, a=1, z=0)

    def test_14_jumps_if_z_is_not_set(self):
        self.check([14, 20], place=4, z=1)
        self.check([1, 1, 14, 20], place=22, a=1, z=0)
        self.check([1, 1, 14, 148], place=22, a=1, z=0)

    def test_15_jumps_if_c_is_set(self):
        self.check([15, 20], place=4)
        self.check([1, 1, 15, 20], place=6, a=1, z=0)
        self.check([9, 0, 15, 20], place=22, a=247, z=0, c=1)
        self.check([9, 0, 15, 148], place=22, a=247, z=0, c=1)

    def test_x_counts_for_the_place_with_4_and_5_alone(self):
        self.check([6, 3, 2, 8, 0, 0, 0, 0, 77], place=6, a=77, x=3, z=0)
        self.check([6, 3, 1, 9, 3, 50], place=8, a=9, x=3, z=0, changed={50: 9})
        for which, a in ((8, 12 + 10), (9, 12 - 10), (10, 8), (11, 6)):
            self.check([6, 3, 1, 12, which, 9, 0, 0, 0, 10], place=8, a=a, x=3, z=0)
        self.check([6, 3, 12, 20], place=22, x=3, z=0)

    def test_an_instruction_may_change_one_behind_it(self):
        # 6 is put at place 4, so that x is 33 there.
        self.check([1, 6, 3, 4, 0, 33], place=8, a=6, x=33, z=0, changed={4: 6})

    def test_an_instruction_may_change_itself(self):
        self.check([1, 7, 3, 3], place=6, a=7, z=0, changed={3: 7})

    def test_an_instruction_at_the_last_place_has_its_n_at_place_0(self):
        # At 127 stands the pad, 1, and at 0 the 12: a is 12. At 1 stands 127: 15, modulo 16, without c.
        self.check([12, 127], pad=1, place=5, a=12, z=0)

    def test_behind_place_126_is_place_0(self):
        program = [13, 126, 0] + [0] * 123 + [1]
        self.check(program, pad=5, place=4, a=5, z=0)


class Frames(unittest.TestCase):
    check = Instructions.check

    def test_the_pad_is_there_ahead_of_the_first_instruction(self):
        self.check([2, 127], pad=9, place=4, a=9, z=0)

    def test_the_pad_takes_the_place_of_a_byte_that_was_loaded(self):
        self.check([2, 127] + [0] * 125 + [77], pad=9, place=4, a=9, z=0)

    def test_a_frame_goes_on_where_the_one_ahead_of_it_ended(self):
        program = [1, 1, 0, 0, 6, 2, 0, 0, 7, 3]
        self.check(program, frames=1, place=4, a=1, z=0)
        self.check(program, frames=2, place=8, a=1, x=2, z=0)
        self.check(program, frames=3, place=12, a=1, x=5, z=0)

    def test_a_frame_ends_after_300_instructions(self):
        self.check([7, 1, 12, 0], frames=1, x=150, z=0)
        self.check([7, 1, 12, 0], frames=2, x=44, z=0)

    def test_300_and_not_one_more_or_less(self):
        # 64 instructions once round the places: 300 end at the 44th, at place 88.
        program = [7, 1] * 64
        self.check(program, pad=1, x=300 % 256, place=88, z=0)

    def test_a_rest_as_the_300th_instruction(self):
        # 1, and 149 times 2 while x counts down to 0: that is 299, and the rest is the 300th.
        program = [6, 149, 7, 255, 14, 2]
        self.check(program, place=8, x=0, z=1)

    def test_a_rest_as_the_301st_instruction_comes_with_the_next_frame(self):
        # 2, and 149 times 2.
        program = [6, 149, 12, 4, 7, 255, 14, 4]
        self.check(program, frames=1, place=8, x=0, z=1)
        self.check(program, frames=2, place=10, x=0, z=1)

    def test_what_is_run_is_a_copy(self):
        numbers = loaded([1, 7])
        behind_frame(numbers, 9)
        self.assertEqual(numbers, machine([1, 7]))


class Loading(unittest.TestCase):
    def test_loaded_with_bytes(self):
        self.assertEqual(loaded([]), machine([]))
        self.assertEqual(loaded([1, 255, 0, 3]), machine([1, 255, 0, 3]))
        full = list(range(128))
        self.assertEqual(loaded(full), machine(full))

    def test_numbers_are_all_of_it(self):
        numbers = list(range(5)) + list(range(100, 228))
        self.assertEqual(Machine(numbers).numbers(), numbers)

    def test_now_ahead_of_all_frames(self):
        for some_bytes in ([], [0], [255], [1, 2, 3], [255] * 128):
            for side in (0, 1):
                given = last(("begin", 0, 1, some_bytes), ("now", side))
                self.assertEqual(given, [0, mark_of(machine(some_bytes))])


class Marks(unittest.TestCase):
    def test_by_hand(self):
        self.assertEqual(mark([]), 0)
        self.assertEqual(mark([0]), 7)
        self.assertEqual(mark([5, 1]), 31 * 12 + 8)
        self.assertEqual(mark([255, 255, 255, 255]), (262 * (1 + 31 + 961 + 29791)) % 65521)

    def test_modulo_65521(self):
        # 31 * (31 * (31 * 7 + 7) + 7) + 7 = 215488, less 3 * 65521.
        self.assertEqual(mark([0, 0, 0, 0]), (((7 * 31 + 7) * 31 + 7) * 31 + 7) - 3 * 65521)

    def test_a_machine_without_bytes(self):
        self.assertEqual(play(("now", 0), ("now", 1)), [[0, mark_of(machine([]))]] * 2)

    def test_order_counts(self):
        self.assertNotEqual(mark(machine([1, 2])), mark(machine([2, 1])))


if __name__ == "__main__":
    unittest.main()
