"""Point 14: mix, its forms, its hows and its gate."""

import unittest

from musicbox.desk import answers
from tests.helper import (HANDED, LEAST_WHOLE, MOST_WHOLE, answered, buy, carry_out, carry_out_whole, echo, fade, frames_in,
                          heard, init, last, last_whole, level, line, load, load_frames, machine_after, mix, picture)

FORMS = (0, 1, 2)


def given(frames, form, how=0, gate=-1, row=None):
    """The bytes of a mix of all these frames."""
    return last_whole(init(), load_frames(0, frames), buy(0, 0), mix(len(frames), form, how, gate, row))[1:]


def arranged(frames, how):
    return heard(init(), load_frames(0, frames), buy(0, 0), mix(len(frames), how=how))


class TestForms(unittest.TestCase):
    def test_form_0_two_bytes_each_the_lower_first(self):
        self.assertEqual(given([(0x0102, -2), (32767, -32768), (0, -256)], 0),
                         [2, 1, 254, 255, 255, 127, 0, 128, 0, 0, 0, 255])

    def test_form_1_one_byte_and_128(self):
        self.assertEqual(given([(0, 127), (128, -128), (-129, 256), (32767, -32768)], 1),
                         [128, 128, 129, 128, 127, 129, 255, 0])

    def test_form_2_one_byte_with_its_sign(self):
        self.assertEqual(given([(0, 127), (128, -128), (-129, 256), (32767, -32768)], 2),
                         [0, 0, 1, 0, 255, 1, 127, 128])

    def test_one_byte_is_held(self):
        samples = [(32639, 32640), (32511, 32512), (-32640, -32641), (-32385, -32384)]
        self.assertEqual(given(samples, 1), [255, 255, 255, 255, 1, 0, 1, 2])
        self.assertEqual(given(samples, 2), [127, 127, 127, 127, 129, 128, 129, 130])

    def test_the_halves_of_one_byte(self):
        self.assertEqual(given([(384, 383), (-384, -385), (-640, -641)], 2), [2, 1, 255, 254, 254, 253])


class TestHows(unittest.TestCase):
    FRAMES = [(100, 200), (-3, 0), (-2, -1), (1, 2), (32767, 32767), (-32768, -32768), (-32768, 32767), (0, -1), (5, -5)]
    JOINED = [(150, 150), (-1, -1), (-1, -1), (2, 2), (32767, 32767), (-32768, -32768), (0, 0), (0, 0), (0, 0)]

    def test_how_0_as_they_are(self):
        self.assertEqual(arranged(self.FRAMES, 0), self.FRAMES)

    def test_how_1_both_sides_are_the_middle(self):
        self.assertEqual(arranged(self.FRAMES, 1), self.JOINED)

    def test_how_2_sides_are_exchanged(self):
        self.assertEqual(arranged(self.FRAMES, 2), [(right, left) for left, right in self.FRAMES])

    def test_how_3_both(self):
        self.assertEqual(arranged(self.FRAMES, 3), self.JOINED)

    def test_with_one_byte_forms(self):
        self.assertEqual(given([(256, 1024)], 1, how=1), [131, 131])
        self.assertEqual(given([(256, -1024)], 2, how=2), [252, 1])
        self.assertEqual(given([(256, -1024)], 2, how=3), [255, 255])

    def test_they_last_for_one_mix(self):
        calls = (init(), load_frames(0, [(1, 3)] * 4), buy(0, 0), mix(1, how=1), mix(1, how=2), mix(1, how=3), mix(1))
        self.assertEqual(heard(*calls), [(2, 2), (3, 1), (2, 2), (1, 3)])


class TestGate(unittest.TestCase):
    def passes(self, frame, gate, how=0):
        """Whether a frame is given out; in each form it must be the same, and wholly so."""
        seen = []
        for form in FORMS:
            out = given([frame], form, how)
            # Bytes that differ from those given out in every place, so that none stays unseen.
            handed = [255 - byte for byte in out]
            gated = given([frame], form, how, gate, handed)
            self.assertIn(gated, (out, handed))
            seen.append(gated == out)
        self.assertEqual(len(set(seen)), 1)
        return seen[0]

    def test_minus_1_lets_all_pass(self):
        for frame in ((0, 0), (1, 0), (-32768, 32767)):
            self.assertTrue(self.passes(frame, -1))

    def test_0(self):
        self.assertFalse(self.passes((0, 0), 0))
        for frame in ((1, 0), (0, 1), (-1, 0), (0, -1), (127, -127)):
            self.assertTrue(self.passes(frame, 0))

    def test_neither_side_or_one_alone_is_farther(self):
        for frame in ((100, 100), (-100, 100), (100, -100), (-100, -100), (0, 0)):
            self.assertFalse(self.passes(frame, 100))
        for frame in ((101, 0), (0, 101), (-101, 0), (0, -101), (101, 100), (-100, -101), (101, 101)):
            self.assertTrue(self.passes(frame, 100))

    def test_the_greatest(self):
        for frame in ((32767, 32767), (-32767, -32767), (0, 32767)):
            self.assertFalse(self.passes(frame, 32767))
            self.assertTrue(self.passes(frame, 32766))
        for frame in ((-32768, 0), (0, -32768), (-32768, 32767)):
            self.assertTrue(self.passes(frame, 32767))

    def test_it_is_asked_of_frames_as_they_are_given_out(self):
        self.assertTrue(self.passes((200, -200), 50))
        self.assertFalse(self.passes((200, -200), 50, how=1))
        self.assertFalse(self.passes((200, -200), 50, how=3))
        self.assertTrue(self.passes((200, -200), 50, how=2))
        self.assertTrue(self.passes((0, 102), 50, how=1))
        self.assertFalse(self.passes((0, 100), 50, how=1))

    def test_frame_by_frame(self):
        frames = [(50, 0), (0, 0), (0, 51), (-50, 50), (600, -600)]
        row = list(range(10, 30))
        self.assertEqual(given(frames, 0, gate=50, row=row),
                         [10, 11, 12, 13, 14, 15, 16, 17, 0, 0, 51, 0, 22, 23, 24, 25, 88, 2, 168, 253])
        row = list(range(10, 20))
        self.assertEqual(given(frames, 1, gate=50, row=row), [10, 11, 12, 13, 128, 128, 16, 17, 130, 126])
        self.assertEqual(given(frames, 2, gate=50, row=row), [10, 11, 12, 13, 0, 0, 16, 17, 2, 254])

    def test_frames_that_stay_are_played_all_the_same(self):
        calls = (init(), load_frames(0, [(5, 5), (6, 6), (7, 7)]), buy(0, 0), echo(2, 16384), mix(1, gate=100), mix(1),
                 mix(2))
        self.assertEqual(frames_in(last_whole(*calls)), [(12, 12), (6, 6)])
        self.assertEqual(answered(*calls)[4:], [1, 1, 0])


class TestMix(unittest.TestCase):
    def test_how_many_voices_still_play(self):
        voices = [buy(0, v, step=16384 * (1 + v % 2)) for v in range(8)]
        calls = (init(), load(0, 0, 4), mix(0), *voices, mix(0), mix(1), mix(1), mix(1), mix(1), mix(1))
        self.assertEqual(answered(*calls)[2:3] + answered(*calls)[11:], [0, 8, 8, 4, 4, 0, 0])

    def test_so_many_frames(self):
        for form, size in ((0, 4), (1, 2), (2, 2)):
            for n in (0, 1, 2, 1023, 1024):
                self.assertEqual(len(last_whole(init(), mix(n, form))), 1 + n * size)

    def test_the_ranges(self):
        for n in (0, 1, 1024):
            for form in FORMS:
                for how in (0, 1, 2, 3):
                    for gate in (-1, 0, 1, 32766, 32767):
                        self.assertEqual(last(init(), mix(n, form, how, gate)), 0)

    def test_outside_the_ranges(self):
        for n in (-1, 1025, LEAST_WHOLE, MOST_WHOLE):
            self.assertEqual(last_whole(init(), mix(n)), [-1])
        for form in (-1, 3, LEAST_WHOLE, MOST_WHOLE):
            self.assertEqual(last_whole(init(), mix(1, form=form)), [-1])
            self.assertEqual(last_whole(init(), mix(0, form=form)), [-1])
        for how in (-1, 4, LEAST_WHOLE, MOST_WHOLE):
            self.assertEqual(last_whole(init(), mix(1, how=how)), [-1])
        for gate in (-2, 32768, LEAST_WHOLE, MOST_WHOLE):
            self.assertEqual(last_whole(init(), mix(1, gate=gate)), [-1])

    def test_a_refusal_changes_nothing(self):
        machine = machine_after(init(), load_frames(0, [(32767, -32768)] * 9), buy(0, 0), fade(0, 1, 1, 1), echo(2, 9),
                                mix(3))
        was = picture(machine)
        told = carry_out_whole(machine, level())
        wrong = (mix(-1), mix(1025), mix(1, form=3), mix(1, form=-1), mix(1, how=4), mix(1, how=-1), mix(1, gate=-2),
                 mix(1, gate=32768))
        self.assertEqual(carry_out(machine, *wrong), [-1] * 8)
        self.assertEqual(picture(machine), was)
        self.assertEqual(carry_out_whole(machine, level()), told)

    def test_it_leaves_tracks_and_accounts(self):
        machine = machine_after(init(), load_frames(0, [(1, 2)] * 3), buy(0, 0))
        was = picture(machine)
        carry_out(machine, mix(2))
        now = picture(machine)
        self.assertEqual((now["tracks"], now["accounts"]), (was["tracks"], was["accounts"]))

    def test_the_bytes_handed_in_stay(self):
        calls = line(init(), load_frames(0, [(1, 2)]), buy(0, 0), mix(1))
        self.assertEqual(answers(calls)[-4:], [1, 0, 2, 0])
        self.assertEqual(calls[-4:], [HANDED] * 4)


if __name__ == "__main__":
    unittest.main()
