"""Points 15 and 16: levels, ends and swing, and level."""

import struct
import unittest
from fractions import Fraction

from tests.helper import (buy, carry_out, carry_out_whole, echo, init, last_whole, level, load_frames, machine_after, mix,
                          picture, told_levels)

SMALLEST = Fraction(1, 2 ** 149)


def after(*calls):
    """The left level, the right one, ends and swing behind the calls."""
    return told_levels(last_whole(*calls, level()))


def playing(*frames):
    return (init(), load_frames(0, list(frames)), buy(0, 0))


def single(number):
    """The single float that is nearest to a float."""
    return struct.unpack("<f", struct.pack("<f", number))[0]


def kept_levels(machine):
    return [steps * SMALLEST for steps in machine.levels]


class TestLevels(unittest.TestCase):
    def test_none_yet(self):
        self.assertEqual(last_whole(init(), level()), [0] * 25)
        self.assertEqual(last_whole(init(), mix(5), level()), [0] * 25)

    def test_the_form_of_the_answer(self):
        self.assertEqual(last_whole(*playing((0x0102, -32768), (5, 6), (3, -4)), mix(3), level()),
                         [0, 2, 1, 0, 0, 255, 127, 0, 0, 1, 0, 0, 0, 0, 0, 0, 0, 129, 0, 0, 0, 0, 0, 0, 0])

    def test_the_peak_of_each_side(self):
        self.assertEqual(after(*playing((5, -70), (-9, 60), (8, 0)), mix(3))[:2], (9, 70))

    def test_32768_counts_as_32767(self):
        self.assertEqual(after(*playing((-32768, 32767)), mix(1))[:2], (32767, 32767))
        machine = machine_after(*playing((-32768, 32767)), mix(1))
        self.assertEqual(kept_levels(machine), [32767, 32767])

    def test_a_greater_peak_takes_its_place(self):
        self.assertEqual(after(*playing((100, 100), (76, 75), (1, 1)), mix(1), mix(1))[:2], (76, 75))

    def test_a_smaller_one_does_not(self):
        self.assertEqual(after(*playing((100, 1000), (74, 749)), mix(1), mix(1))[:2], (75, 750))

    def test_of_the_last_mix_alone_the_peak_counts(self):
        self.assertEqual(after(*playing((400, 0), (4, 0), (5, 0)), mix(1), mix(1), mix(1))[:2], (225, 0))

    def test_three_quarters_of_what_it_was_not_of_what_is_told(self):
        told = [after(*playing((100, 0)), mix(1), *[mix(0)] * times)[0] for times in range(8)]
        self.assertEqual(told, [100, 75, 56, 42, 32, 24, 18, 13])

    def test_halves_to_the_even_one(self):
        for peak, told in ((2, 2), (6, 4), (10, 8), (14, 10), (18, 14), (22, 16)):
            self.assertEqual(after(*playing((peak, -peak)), mix(1), mix(0))[:2], (told, told))

    def test_single_floats_are_rounded(self):
        # Without that rounding each of these would be told one less or one more.
        rows = ((7971, 9, 598), (10628, 10, 598), (11874, 11, 501), (18599, 9, 1396), (21549, 10, 1214), (22586, 19, 96),
                (23191, 6, 4128), (24994, 10, 1408), (26407, 17, 198))
        for peak, times, told in rows:
            self.assertEqual(after(*playing((peak, -peak)), mix(1), *[mix(0)] * times)[:2], (told, told))

    def test_after_many_mixes_of_no_frames(self):
        for peak in (32767, 32766, 21845, 12345, 1):
            machine = machine_after(*playing((peak, -peak)), mix(1))
            expected = float(peak)
            for times in range(500):
                self.assertEqual(kept_levels(machine), [Fraction(expected)] * 2)
                self.assertEqual(carry_out_whole(machine, level())[0][1:5], list(struct.pack("<I", round(expected))))
                carry_out(machine, mix(0))
                expected = single(expected * 0.75)

    def test_very_small_ones(self):
        for steps, fewer in ((1, 1), (2, 2), (3, 2), (4, 3), (5, 4), (6, 4), (7, 5), (10, 8), (2 ** 24 + 2, 12582914),
                             (22369620, 2 ** 24 - 1), (22369622, 2 ** 24), (22369624, 2 ** 24 + 2)):
            machine = machine_after(init())
            machine.levels = [steps, 0]
            carry_out(machine, mix(0))
            self.assertEqual(machine.levels, [fewer, 0])
            self.assertEqual(Fraction(single(float(steps * SMALLEST) * 0.75)), fewer * SMALLEST)

    def test_mixes_with_frames_count_as_one_each(self):
        self.assertEqual(after(*playing((1000, 0)), mix(1), mix(1024), mix(5))[0], 562)

    def test_gate_or_not(self):
        self.assertEqual(after(*playing((32767, -600)), mix(1, gate=32767)), (32767, 600, 1, 129))

    def test_as_they_are_given_out(self):
        frames = playing((32767, -32767), (100, 300))
        self.assertEqual(after(*frames, mix(2, how=0)), (32767, 32767, 1, 127 + 128 + 0 + 1))
        self.assertEqual(after(*frames, mix(2, how=1)), (200, 200, 0, 2))
        self.assertEqual(after(*frames, mix(2, how=3)), (200, 200, 0, 2))
        self.assertEqual(after(*playing((5, 900)), mix(1, how=2))[:2], (900, 5))

    def test_the_echo_counts(self):
        self.assertEqual(after(*playing((20000, 0), (20000, 0)), echo(1, 16384), mix(2)), (32767, 0, 1, 78 + 127))

    def test_each_form_alike(self):
        for form in (0, 1, 2):
            self.assertEqual(after(*playing((32767, 20), (-300, -32768)), mix(2, form)), (32767, 32767, 2, 127 + 1 + 128))

    def test_init_begins_anew(self):
        self.assertEqual(after(*playing((32767, -32768)), mix(1), init()), (0, 0, 0, 0))
        self.assertEqual(after(*playing((32767, -32768)), mix(1), init(), mix(0)), (0, 0, 0, 0))

    def test_level_changes_nothing(self):
        machine = machine_after(*playing((32767, -32768), (1, 2)), mix(1))
        was = picture(machine)
        self.assertEqual(carry_out(machine, level(), level()), [0, 0])
        self.assertEqual(picture(machine), was)


class TestEnds(unittest.TestCase):
    def ends(self, *calls):
        return after(*calls)[2]

    def test_the_two_ends_on_each_side(self):
        rows = (((32767, 0), 1), ((0, 32767), 1), ((-32768, 0), 1), ((0, -32768), 1), ((32767, -32768), 2),
                ((32766, -32767), 0), ((-32768, -32768), 2))
        for frame, ends in rows:
            self.assertEqual(self.ends(*playing(frame), mix(1)), ends)

    def test_of_all_mixes_since_init(self):
        frames = playing((32767, 0), (1, 2), (-32768, 32767), (0, 0))
        self.assertEqual(self.ends(*frames, mix(1), mix(1), mix(2), mix(0), mix(9)), 3)
        self.assertEqual(self.ends(*frames, mix(4), *playing((32767, 0)), mix(4)), 1)

    def test_more_than_a_byte_has(self):
        self.assertEqual(last_whole(*playing(*[(32767, -32768)] * 150), mix(150), level())[9:17], [44, 1, 0, 0, 0, 0, 0, 0])


class TestSwing(unittest.TestCase):
    def swing(self, *calls):
        return after(*calls)[3]

    def test_the_sum_without_signs(self):
        self.assertEqual(self.swing(*playing((256, -256), (-512, 128), (-129, -128), (127, 0)), mix(4)), 1 + 1 + 2 + 1 + 1)

    def test_the_ends(self):
        self.assertEqual(self.swing(*playing((32767, 0)), mix(1)), 127)
        self.assertEqual(self.swing(*playing((0, -32768)), mix(1)), 128)

    def test_of_the_last_mix_alone(self):
        frames = playing((2560, 0), (256, 0), (512, 0))
        self.assertEqual(self.swing(*frames, mix(1), mix(2)), 3)
        self.assertEqual(self.swing(*frames, mix(3), mix(0)), 0)
        self.assertEqual(self.swing(*frames, mix(3), mix(-1)), 13)

    def test_more_than_two_bytes_have(self):
        self.assertEqual(last_whole(*playing(*[(-32768, -32768)] * 300), mix(300), level())[17:],
                         [0, 44, 1, 0, 0, 0, 0, 0])


if __name__ == "__main__":
    unittest.main()
