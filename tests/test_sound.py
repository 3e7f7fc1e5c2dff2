"""Points 12 and 13: a voice's frame and the machine's frame, as mix gives them out."""

import unittest

from tests.helper import (answered, buy, carry_out, carry_out_whole, echo, fade, frames_in, heard, init, last, last_whole,
                          load, load_frames, machine_after, mix, picture, stop)


def one_voice(frames, n, left=16384, right=16384, step=16384):
    """The next n frames of a machine of which one voice plays these frames."""
    return heard(init(), load_frames(0, frames), buy(0, 0, left, right, step), mix(n))


def both(samples):
    return [(sample, sample) for sample in samples]


class TestVoiceFrame(unittest.TestCase):
    def test_a_track_as_it_is(self):
        frames = [(1, -2), (32767, -32768), (-32768, 32767), (0, 5)]
        self.assertEqual(one_voice(frames, 6), frames + [(0, 0)] * 2)

    def test_each_kind_of_track(self):
        rows = ((0, 2, [129, 0], [(256, 256), (-32768, -32768)]), (1, 1, [129, 0], [(256, -32768)]),
                (2, 2, [1, 2, 0, 128], [(513, 513), (-32768, -32768)]), (3, 1, [1, 2, 0, 128], [(513, -32768)]))
        for kind, frames, row, expected in rows:
            self.assertEqual(heard(init(), load(5, kind, frames, row), buy(5, 3), mix(frames)), expected)

    def test_gains_of_each_side(self):
        self.assertEqual(one_voice([(1000, 1000), (-1000, -1000)], 2, 8192, 4096), [(500, 250), (-500, -250)])
        self.assertEqual(one_voice([(1000, 1000)], 1, 0, 32767), [(0, 2000)])

    def test_scaled_is_rounded_down_from_a_half_more(self):
        self.assertEqual(one_voice(both([1, 3, -1, -3]), 4, 8192, 8191), [(1, 0), (2, 1), (0, 0), (-1, -1)])

    def test_scaled_is_held(self):
        self.assertEqual(one_voice([(32767, -32768), (-20000, 20000)], 2, 32767, 32767),
                         [(32767, -32768), (-32768, 32767)])

    def test_what_lies_between(self):
        self.assertEqual(one_voice([(1000, -1000), (2000, -3000)], 6, step=8192),
                         [(1000, -1000), (1500, -2000), (2000, -3000), (1000, -1500), (0, 0), (0, 0)])
        self.assertEqual(one_voice([(0, 0), (1600, -1600)], 5, step=4096),
                         [(0, 0), (400, -400), (800, -800), (1200, -1200), (1600, -1600)])

    def test_between_is_rounded_down_from_a_half_more(self):
        self.assertEqual(one_voice([(0, 0), (1, -1), (0, -4), (0, -7)], 6, step=8192),
                         [(0, 0), (1, 0), (1, -1), (1, -2), (0, -4), (0, -5)])

    def test_between_first_then_scaled(self):
        self.assertEqual(one_voice([(0, 0), (1, 1)], 2, 32767, 8192, 8192), [(0, 0), (2, 1)])

    def test_behind_the_last_there_is_a_frame_of_0(self):
        self.assertEqual(one_voice([(100, -100), (200, -200)], 3, step=24576), [(100, -100), (100, -100), (0, 0)])
        self.assertEqual(one_voice([(16384, -16384)], 4, step=4096),
                         [(16384, -16384), (12288, -12288), (8192, -8192), (4096, -4096)])

    def test_steps_over_frames(self):
        track = both(range(1, 11))
        self.assertEqual(one_voice(track, 4, step=49152), both([1, 4, 7, 10]))
        self.assertEqual(one_voice(track, 4, step=65536), both([1, 5, 9, 0]))
        self.assertEqual(one_voice(both(range(0, 1000, 100)), 5, step=20480), both([0, 125, 250, 375, 500]))

    def test_where_a_step_ends_the_voice(self):
        two = (init(), load_frames(0, both([5, 6])))
        for step, plays in ((32766, 1), (32767, 1), (32768, 0), (32769, 0), (65536, 0)):
            self.assertEqual(last(*two, buy(0, 0, step=step), mix(1)), plays, step)
        for frames, mixed, plays in ((4, 1, 0), (5, 1, 1), (5, 2, 0), (8, 1, 1), (8, 2, 0), (9, 2, 1), (9, 3, 0)):
            self.assertEqual(last(init(), load(0, 0, frames), buy(0, 0, step=65536), mix(mixed)), plays)

    def test_the_smallest_step(self):
        machine = machine_after(init(), load_frames(0, [(16384, -16384)]), buy(0, 0, step=1))
        given = carry_out_whole(machine, *[mix(1024) for part in range(16)])
        self.assertEqual([answer[0] for answer in given], [1] * 15 + [0])
        frames = [frame for answer in given for frame in frames_in(answer)]
        self.assertEqual(frames, [(16384 - i, i - 16384) for i in range(16384)])

    def test_a_voice_that_ended_does_not_play(self):
        self.assertEqual(answered(init(), load(0, 0, 2), buy(0, 3), mix(1), fade(3, 1, 1, 1), mix(1), fade(3, 1, 1, 1))[3:],
                         [1, 0, 0, -2])

    def test_it_goes_on_in_the_next_mix(self):
        track = load_frames(0, both([10, 20, 30, 40]))
        self.assertEqual(heard(init(), track, buy(0, 0), mix(1), mix(0), mix(2), mix(3)), both([10, 20, 30, 40, 0, 0]))

    def test_bought_again_it_begins_again(self):
        track = load_frames(0, both([10, 20, 30]))
        self.assertEqual(heard(init(), track, buy(0, 0), mix(2), buy(0, 0), mix(3)), both([10, 20, 10, 20, 30]))

    def test_one_that_is_stopped_is_not_heard(self):
        track = load_frames(0, both([10, 20, 30]))
        self.assertEqual(heard(init(), track, buy(0, 0), mix(1), stop(0), mix(1)), both([10, 0]))

    def test_the_longest_track(self):
        samples = [(i * 31) % 65536 - 32768 for i in range(2048)]
        row = [byte for sample in samples for byte in (sample % 256, sample // 256 % 256)]
        calls = (init(), load(0, 2, 2048, row), buy(0, 0), mix(1024), mix(1024))
        self.assertEqual(heard(*calls), both(samples))
        self.assertEqual(answered(*calls)[3:], [1, 0])


class TestFadeIsHeard(unittest.TestCase):
    # A sample of 16384 is heard as the gain itself.
    READY = (init(), load_frames(0, both([16384] * 9)))

    def test_upwards_and_downwards_to_the_goal(self):
        self.assertEqual(heard(*self.READY, buy(0, 0, 0, 16384), fade(0, 10000, 6384, 4000), mix(5)),
                         [(4000, 12384), (8000, 8384), (10000, 6384), (10000, 6384), (10000, 6384)])

    def test_to_the_goal_in_even_steps(self):
        self.assertEqual(heard(*self.READY, buy(0, 0, 100, 300), fade(0, 300, 100, 100), mix(4)),
                         [(200, 200), (300, 100), (300, 100), (300, 100)])

    def test_at_once(self):
        self.assertEqual(heard(*self.READY, buy(0, 0, 0, 32767), fade(0, 32767, 0, 32767), mix(1)), [(32767, 0)])

    def test_by_1(self):
        self.assertEqual(heard(*self.READY, buy(0, 0, 5, 5), fade(0, 0, 9, 1), mix(6)),
                         [(4, 6), (3, 7), (2, 8), (1, 9), (0, 9), (0, 9)])

    def test_one_side_alone(self):
        self.assertEqual(heard(*self.READY, buy(0, 0, 50, 70), fade(0, 50, 60, 6), mix(3)), [(50, 64), (50, 60), (50, 60)])

    def test_over_mixes_and_with_another_goal(self):
        self.assertEqual(heard(*self.READY, buy(0, 0, 0, 0), fade(0, 100, 100, 10), mix(2), mix(0), mix(1),
                               fade(0, 0, 35, 20), mix(3)),
                         [(10, 10), (20, 20), (30, 30), (10, 35), (0, 35), (0, 35)])

    def test_bought_again_it_has_its_own_gains(self):
        self.assertEqual(heard(*self.READY, buy(0, 0, 0, 0), fade(0, 100, 100, 10), mix(1), buy(0, 0, 7, 8), mix(2)),
                         [(10, 10), (7, 8), (7, 8)])

    def test_only_that_voice(self):
        self.assertEqual(heard(*self.READY, buy(0, 0, 0, 0), buy(0, 1, 1000, 2000), fade(0, 100, 100, 10), mix(2)),
                         [(1010, 2010), (1020, 2020)])


class TestMachineFrame(unittest.TestCase):
    def sums(self, *samples):
        """What is heard of voices 0 on, each of which plays one frame of these samples."""
        calls = [init()]
        for v, sample in enumerate(samples):
            calls += [load_frames(v, [(sample, -sample)]), buy(v, v)]
        return heard(*calls, mix(1))[0]

    def test_nothing_plays(self):
        self.assertEqual(heard(init(), mix(3)), [(0, 0)] * 3)

    def test_voices_are_added(self):
        self.assertEqual(self.sums(1, 20, 300, 4000, 5, 60, 700, 8000), (13086, -13086))

    def test_held_after_each_voice(self):
        self.assertEqual(self.sums(30000, 30000, -30000), (2767, -2768))
        self.assertEqual(self.sums(-30000, 30000, 30000), (30000, -30000))
        self.assertEqual(self.sums(30000, -30000, 30000, 30000), (32767, -32768))
        self.assertEqual(self.sums(32767, 1, -1), (32766, -32767))
        self.assertEqual(self.sums(-32767, -2, 1), (-32767, 32766))

    def test_in_the_voices_order_not_in_that_of_buying(self):
        tracks = (init(), load_frames(0, [(30000, 0)]), load_frames(1, [(-30000, 0)]))
        self.assertEqual(heard(*tracks, buy(1, 7), buy(0, 3), buy(0, 5), mix(1)), [(2767, 0)])
        self.assertEqual(heard(*tracks, buy(0, 5), buy(0, 3), buy(1, 1), mix(1)), [(30000, 0)])

    def test_voices_end_each_at_its_time(self):
        calls = (init(), load_frames(0, both([1, 1, 1])), load_frames(1, both([10])), buy(0, 0), buy(1, 1), buy(0, 7),
                 mix(1), mix(1), mix(1), mix(1))
        self.assertEqual(heard(*calls), both([12, 2, 2, 0]))
        self.assertEqual(answered(*calls)[6:], [2, 2, 0, 0])

    def test_one_track_on_two_voices_at_their_own_places(self):
        self.assertEqual(heard(init(), load_frames(0, both([1, 20, 300])), buy(0, 0), mix(1), buy(0, 1, step=32768), mix(3)),
                         both([1, 21, 600, 0]))


class TestEchoIsHeard(unittest.TestCase):
    def test_no_frames_are_no_echo(self):
        self.assertEqual(heard(init(), echo(0, 16384), load_frames(0, both([7, 8])), buy(0, 0), mix(4)), both([7, 8, 0, 0]))

    def test_one_frame(self):
        ready = (init(), load_frames(0, [(100, -100)]), echo(1, 8192), buy(0, 0))
        self.assertEqual(heard(*ready, mix(9)),
                         [(100, -100), (50, -50), (25, -25), (13, -12), (7, -6), (4, -3), (2, -1), (1, 0), (1, 0)])

    def test_several_frames_over_several_mixes(self):
        ready = (init(), load_frames(0, both([1000, 2000])), echo(3, 4096), buy(0, 0))
        self.assertEqual(heard(*ready, mix(2), mix(2), mix(0), mix(1), mix(4)),
                         both([1000, 2000, 0, 250, 500, 0, 63, 125, 0]))

    def test_it_is_added_to_what_plays(self):
        ready = (init(), load_frames(0, both([100, 200, 300, 400])), echo(2, 16384), buy(0, 0))
        self.assertEqual(heard(*ready, mix(6)), both([100, 200, 400, 600, 400, 600]))

    def test_the_sum_is_held_and_kept_so(self):
        ready = (init(), load_frames(0, [(30000, -30000), (30000, -30000), (-10000, 10000)]), echo(1, 16384), buy(0, 0))
        self.assertEqual(heard(*ready, mix(4)), [(30000, -30000), (32767, -32768), (22767, -22768), (22767, -22768)])

    def test_a_gain_of_0(self):
        self.assertEqual(heard(init(), load_frames(0, both([7, 8])), echo(1, 0), buy(0, 0), mix(3)), both([7, 8, 0]))

    def test_the_most_frames(self):
        calls = (init(), load_frames(0, both([9])), echo(2048, 16384), buy(0, 0), mix(1024), mix(1024), mix(1024))
        expected = [0] * 3072
        expected[0] = 9
        expected[2048] = 9
        self.assertEqual(heard(*calls), both(expected))

    def test_it_goes_on_when_nothing_plays(self):
        calls = (init(), load_frames(0, both([64])), echo(2, 8192), buy(0, 0), mix(1), mix(4))
        self.assertEqual(heard(*calls), both([64, 0, 32, 0, 16]))
        self.assertEqual(last_whole(*calls)[0], 0)

    def test_asked_for_again_it_is_all_0(self):
        ready = (init(), load_frames(0, both([64, 65])), echo(2, 16384), buy(0, 0), mix(2))
        self.assertEqual(heard(*ready, echo(2, 16384), mix(2)), both([64, 65, 0, 0]))
        self.assertEqual(heard(*ready, mix(1), echo(3, 16384), mix(3)), both([64, 65, 64, 0, 0, 0]))
        self.assertEqual(heard(*ready, echo(0, 0), mix(2)), both([64, 65, 0, 0]))
        self.assertEqual(heard(*ready, init(), mix(2)), both([64, 65, 0, 0]))

    def test_it_keeps_frames_ahead_of_how(self):
        ready = (init(), load_frames(0, [(100, 50)]), echo(1, 16384), buy(0, 0))
        self.assertEqual(heard(*ready, mix(1, how=1), mix(1), mix(1, how=2), mix(1)),
                         [(75, 75), (100, 50), (50, 100), (100, 50)])

    def test_a_mix_of_no_frames_leaves_it(self):
        machine = machine_after(init(), load_frames(0, both([64, 65])), echo(2, 16384), buy(0, 0), mix(1))
        was = picture(machine.echo)
        carry_out(machine, mix(0))
        self.assertEqual(picture(machine.echo), was)


if __name__ == "__main__":
    unittest.main()
