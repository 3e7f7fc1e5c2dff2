"""Points 8 to 11: the voice that buy starts, fade, stop and echo."""

import unittest

from tests.helper import (LEAST_WHOLE, MOST_WHOLE, answered, buy, carry_out, coin, echo, fade, init, last, load,
                          machine_after, picture, price, stop)

READY = (init(), load(0, 0, 3))


class TestBuy(unittest.TestCase):
    def test_the_voice_plays_from_the_first_frame_with_these_gains(self):
        voice = machine_after(init(), load(6, 0, 3), buy(6, 5, 11, 22, 33)).voices[5]
        self.assertEqual((voice.track, voice.place, voice.step), (6, 0, 33))
        self.assertEqual((voice.gains, voice.goals), ([11, 22], [11, 22]))

    def test_only_voice_v_plays(self):
        for v in range(8):
            self.assertEqual([last(*READY, buy(0, v), fade(other, 1, 1, 1)) for other in range(8)],
                             [0 if other == v else -2 for other in range(8)])

    def test_whatever_it_did(self):
        machine = machine_after(*READY, load(1, 0, 3), buy(0, 4, 1, 2, 3), fade(4, 500, 600, 7))
        machine.voices[4].place = 20000
        carry_out(machine, buy(1, 4, 5, 6, 7))
        voice = machine.voices[4]
        self.assertEqual((voice.track, voice.place, voice.step), (1, 0, 7))
        self.assertEqual((voice.gains, voice.goals), ([5, 6], [5, 6]))

    def test_it_ends_with_the_track_it_plays_now(self):
        calls = (*READY, load(1, 0, 3), buy(0, 4), buy(1, 4), load(0, 0, 3), fade(4, 1, 1, 1), load(1, 0, 3),
                 fade(4, 1, 1, 1))
        self.assertEqual(answered(*calls)[5:], [0, 0, 0, -2])

    def test_one_track_on_all_voices(self):
        calls = [buy(0, v) for v in range(8)] + [fade(v, 1, 1, 1) for v in range(8)]
        self.assertEqual(answered(*READY, *calls), [0] * 18)

    def test_it_has_been_bought_once_more(self):
        machine = machine_after(*READY, load(1, 0, 1), buy(0, 0), buy(0, 0), buy(1, 0), buy(0, 3))
        self.assertEqual((machine.tracks[0].bought, machine.tracks[1].bought), (3, 1))

    def test_it_is_counted_up_to_a_bound(self):
        machine = machine_after(*READY)
        machine.tracks[0].bought = 2 ** 32 - 2
        self.assertEqual(carry_out(machine, buy(0, 0)), [0])
        self.assertEqual(machine.tracks[0].bought, 2 ** 32 - 1)
        self.assertEqual(carry_out(machine, buy(0, 1)), [0])
        self.assertEqual(machine.tracks[0].bought, 2 ** 32 - 1)
        self.assertEqual(machine.voices[1].track, 0)

    def test_the_ranges(self):
        for k in (0, 7):
            for v in (0, 7):
                self.assertEqual(last(init(), load(k, 0, 1), buy(k, v)), 0)
        for gain in (0, 1, 32766, 32767):
            self.assertEqual(answered(*READY, buy(0, 0, left=gain), buy(0, 0, right=gain)), [0] * 4)
        for step in (1, 2, 65535, 65536):
            self.assertEqual(last(*READY, buy(0, 0, step=step)), 0)

    def test_outside_the_ranges(self):
        for number in (-1, 8, LEAST_WHOLE, MOST_WHOLE):
            self.assertEqual(answered(*READY, buy(number, 0), buy(0, number)), [0, 0, -1, -1])
        for gain in (-1, 32768, LEAST_WHOLE, MOST_WHOLE):
            self.assertEqual(answered(*READY, buy(0, 0, left=gain), buy(0, 0, right=gain)), [0, 0, -1, -1])
        for step in (-1, 0, 65537, LEAST_WHOLE, MOST_WHOLE):
            self.assertEqual(last(*READY, buy(0, 0, step=step)), -1)

    def test_a_track_that_is_not_loaded(self):
        self.assertEqual([last(*READY, buy(k, 0)) for k in range(8)], [0] + [-1] * 7)

    def test_a_refusal_leaves_the_voice_as_it_was(self):
        machine = machine_after(*READY, buy(0, 0, 1, 2, 3), price(0, 2, 0, 10), coin(9))
        was = picture(machine)
        refused = carry_out(machine, buy(0, 0, 4, 5, 6), buy(1, 0), buy(0, 0, left=-1), buy(0, 0, right=-1),
                            buy(0, 0, step=0), buy(0, 8))
        self.assertEqual(refused, [-2, -1, -1, -1, -1, -1])
        self.assertEqual(picture(machine), was)


class TestFade(unittest.TestCase):
    def test_the_gains_stay_and_their_goals_are_set(self):
        voice = machine_after(*READY, buy(0, 3, 100, 200, 9), fade(3, 7, 8, 5)).voices[3]
        self.assertEqual((voice.gains, voice.goals, voice.pace), ([100, 200], [7, 8], 5))
        self.assertEqual((voice.track, voice.place, voice.step), (0, 0, 9))

    def test_a_later_one_takes_its_place(self):
        voice = machine_after(*READY, buy(0, 3, 100, 200, 9), fade(3, 7, 8, 5), fade(3, 70, 80, 50)).voices[3]
        self.assertEqual((voice.gains, voice.goals, voice.pace), ([100, 200], [70, 80], 50))

    def test_other_voices_go_on_as_they_were(self):
        machine = machine_after(*READY, buy(0, 3, 1, 2), buy(0, 4, 3, 4), fade(3, 7, 8, 5))
        self.assertEqual((machine.voices[4].gains, machine.voices[4].goals), ([3, 4], [3, 4]))

    def test_the_ranges(self):
        for v in (0, 7):
            for gain in (0, 1, 32766, 32767):
                for by in (1, 2, 32766, 32767):
                    self.assertEqual(answered(*READY, buy(0, v), fade(v, gain, 0, by), fade(v, 0, gain, by)), [0] * 5)

    def test_outside_the_ranges(self):
        playing = (*READY, buy(0, 0), buy(0, 7))
        for v in (-1, 8, LEAST_WHOLE, MOST_WHOLE):
            self.assertEqual(last(*playing, fade(v, 1, 1, 1)), -1)
        for gain in (-1, 32768, LEAST_WHOLE, MOST_WHOLE):
            self.assertEqual(answered(*playing, fade(0, gain, 1, 1), fade(0, 1, gain, 1))[4:], [-1, -1])
        for by in (-1, 0, 32768, LEAST_WHOLE, MOST_WHOLE):
            self.assertEqual(last(*playing, fade(0, 1, 1, by)), -1)

    def test_a_voice_that_does_not_play(self):
        self.assertEqual([last(*READY, fade(v, 1, 1, 1)) for v in range(8)], [-2] * 8)

    def test_numbers_out_of_range_come_ahead_of_not_playing(self):
        wrong = (fade(0, -1, 1, 1), fade(0, 1, 32768, 1), fade(0, 1, 1, 0), fade(0, 1, 1, 32768), fade(8, 1, 1, 1))
        self.assertEqual(answered(*READY, *wrong, fade(0, 1, 1, 1))[2:], [-1] * 5 + [-2])

    def test_a_refusal_changes_nothing(self):
        machine = machine_after(*READY, buy(0, 0, 1, 2, 3))
        was = picture(machine)
        refused = carry_out(machine, fade(1, 9, 9, 9), fade(0, -1, 9, 9), fade(0, 9, -1, 9), fade(0, 9, 9, 0))
        self.assertEqual(refused, [-2, -1, -1, -1])
        self.assertEqual(picture(machine), was)


class TestStop(unittest.TestCase):
    def test_it_does_not_play(self):
        self.assertEqual(answered(*READY, buy(0, 0), buy(0, 1), stop(0), fade(0, 1, 1, 1), fade(1, 1, 1, 1))[4:],
                         [0, -2, 0])

    def test_one_that_does_not_play_may_be_stopped(self):
        self.assertEqual(answered(init(), stop(0), stop(7), stop(7)), [0, 0, 0, 0])

    def test_it_plays_again_when_bought_again(self):
        self.assertEqual(answered(*READY, buy(0, 0), stop(0), buy(0, 0), fade(0, 1, 1, 1))[2:], [0, 0, 0, 0])

    def test_it_changes_that_voice_alone(self):
        machine = machine_after(*READY, coin(5), price(0, 3, 1, 2), buy(0, 7), buy(0, 2), echo(2, 2))
        was = picture(machine)
        carry_out(machine, stop(7))
        was["voices"][7] = None
        self.assertEqual(picture(machine), was)

    def test_outside_the_range(self):
        machine = machine_after(*READY, buy(0, 0), buy(0, 7))
        was = picture(machine)
        self.assertEqual(carry_out(machine, stop(-1), stop(8), stop(LEAST_WHOLE), stop(MOST_WHOLE)), [-1] * 4)
        self.assertEqual(picture(machine), was)


class TestEcho(unittest.TestCase):
    def test_so_many_frames_of_0(self):
        kept = machine_after(init(), echo(3, 99)).echo
        self.assertEqual((kept.frames, kept.place, kept.gain), ([(0, 0)] * 3, 0, 99))

    def test_a_later_one_begins_anew(self):
        machine = machine_after(init(), echo(3, 99))
        machine.echo.frames[1] = (5, 6)
        machine.echo.place = 2
        carry_out(machine, echo(4, 98))
        self.assertEqual((machine.echo.frames, machine.echo.place, machine.echo.gain), ([(0, 0)] * 4, 0, 98))
        carry_out(machine, echo(0, 5))
        self.assertEqual(machine.echo.frames, [])

    def test_the_ranges(self):
        for frames in (0, 1, 2047, 2048):
            for gain in (0, 1, 16383, 16384):
                self.assertEqual(answered(init(), echo(frames, gain)), [0, 0])
                self.assertEqual(len(machine_after(init(), echo(frames, gain)).echo.frames), frames)

    def test_outside_the_ranges(self):
        machine = machine_after(*READY, buy(0, 0), echo(3, 99))
        was = picture(machine)
        for frames in (-1, 2049, LEAST_WHOLE, MOST_WHOLE):
            self.assertEqual(carry_out(machine, echo(frames, 1)), [-1])
        for gain in (-1, 16385, LEAST_WHOLE, MOST_WHOLE):
            self.assertEqual(carry_out(machine, echo(1, gain)), [-1])
        self.assertEqual(picture(machine), was)

    def test_it_leaves_all_else(self):
        machine = machine_after(*READY, coin(5), price(0, 3, 1, 2), buy(0, 7))
        was = picture(machine)
        carry_out(machine, echo(1, 2))
        was["echo"] = {"frames": [[0, 0]], "place": 0, "gain": 2}
        self.assertEqual(picture(machine), was)


if __name__ == "__main__":
    unittest.main()
