"""Points 4 to 6: init, load and price."""

import unittest

from musicbox.machine import Machine
from tests.helper import (LEAST_WHOLE, MOST, MOST_WHOLE, NO_AMOUNTS, ZERO_BELOW, amount, answered, buy, carry_out, coin,
                          echo, fade, init, last, load, machine_after, picture, price, price_bytes)


class TestInit(unittest.TestCase):
    def test_answers_0(self):
        self.assertEqual(answered(init()), [0])

    def test_nothing_is_there(self):
        machine = machine_after(init())
        self.assertEqual(machine.tracks, [None] * 8)
        self.assertEqual(machine.voices, [None] * 8)
        self.assertEqual(machine.accounts, [0] * 16)
        self.assertEqual((machine.levels, machine.ends, machine.swing), ([0, 0], 0, 0))
        self.assertEqual(machine.echo.frames, [])

    def test_a_second_one_forgets_everything(self):
        machine = machine_after(init(), load(1, 3, 5), coin(500), price(1, 4, 100, 30), buy(1, 2), echo(4, 9))
        machine.levels[1] = 5
        machine.ends = 6
        machine.swing = 7
        self.assertEqual(carry_out(machine, init()), [0])
        self.assertEqual(picture(machine), picture(Machine()))

    def test_a_second_one_is_seen_in_the_answers(self):
        before = (init(), load(0, 0, 1), coin(MOST), buy(0, 0))
        self.assertEqual(answered(*before, fade(0, 1, 1, 1), coin(1)), [0, 0, 0, 0, 0, -2])
        after = (init(), fade(0, 1, 1, 1), buy(0, 0), load(0, 0, 1), price(0, 2, 0, 1), buy(0, 0), coin(1), buy(0, 0))
        self.assertEqual(answered(*before, *after)[4:], [0, -2, -1, 0, 0, -2, 0, 0])


class TestLoad(unittest.TestCase):
    def frames(self, kind, row, frames):
        machine = machine_after(init(), load(3, kind, frames, row))
        return machine.tracks[3].frames

    def test_kind_0_one_byte_for_both_sides(self):
        self.assertEqual(self.frames(0, [0, 127, 128, 129, 255], 5),
                         [(-32768, -32768), (-256, -256), (0, 0), (256, 256), (32512, 32512)])

    def test_kind_1_one_byte_for_each_side(self):
        self.assertEqual(self.frames(1, [0, 255, 129, 128], 2), [(-32768, 32512), (256, 0)])

    def test_kind_2_two_bytes_for_both_sides(self):
        self.assertEqual(self.frames(2, [1, 2, 255, 127, 0, 128, 255, 255], 4),
                         [(513, 513), (32767, 32767), (-32768, -32768), (-1, -1)])

    def test_kind_3_two_bytes_for_each_side(self):
        self.assertEqual(self.frames(3, [1, 2, 255, 127, 0, 128, 254, 255], 2), [(513, 32767), (-32768, -2)])

    def test_the_most_frames_of_each_kind(self):
        for kind in range(4):
            machine = machine_after(init(), load(0, kind, 2048))
            self.assertEqual(len(machine.tracks[0].frames), 2048)

    def test_the_ranges(self):
        for k in (0, 7):
            for kind in (0, 1, 2, 3):
                for frames in (1, 2, 2047, 2048):
                    self.assertEqual(answered(init(), load(k, kind, frames)), [0, 0])

    def test_outside_the_ranges(self):
        for k in (-1, 8, LEAST_WHOLE, MOST_WHOLE):
            self.assertEqual(last(init(), load(k, 0, 1)), -1)
        for kind in (-1, 4, LEAST_WHOLE, MOST_WHOLE):
            self.assertEqual(last(init(), load(0, kind, 1)), -1)
        for frames in (-1, 0, 2049, LEAST_WHOLE, MOST_WHOLE):
            for kind in range(4):
                self.assertEqual(last(init(), load(0, kind, frames)), -1)

    def test_only_track_k_is_loaded(self):
        loaded = machine_after(init(), load(7, 0, 1)).tracks
        self.assertEqual(loaded[:7], [None] * 7)
        for k in range(8):
            self.assertEqual([last(init(), load(k, 0, 1), buy(other, 0)) for other in range(8)],
                             [0 if other == k else -1 for other in range(8)])

    def test_a_new_track_costs_nothing_and_is_the_houses(self):
        track = machine_after(init(), load(2, 0, 1)).tracks[2]
        self.assertEqual((track.cost, track.owner, track.share, track.bought), (0, 2, 0, 0))
        self.assertEqual(last(init(), load(2, 0, 1), buy(2, 0)), 0)

    def test_loading_again_makes_it_new(self):
        machine = machine_after(init(), load(2, 0, 1), price(2, 9, 77, 5), coin(5), buy(2, 1), load(2, 0, 1, [130]))
        track = machine.tracks[2]
        self.assertEqual((track.cost, track.owner, track.share, track.bought), (0, 2, 0, 0))
        self.assertEqual(track.frames, [(512, 512)])

    def test_loading_leaves_accounts_and_other_tracks(self):
        before = (init(), load(2, 0, 1), load(3, 0, 1), price(3, 9, 77, 5), coin(50), buy(3, 1), echo(3, 3))
        machine = machine_after(*before)
        was = picture(machine)
        carry_out(machine, load(2, 0, 1))
        self.assertEqual(picture(machine), was)

    def test_voices_that_play_it_end_and_others_go_on(self):
        before = (init(), load(0, 0, 4), load(1, 0, 4), buy(0, 0), buy(1, 1), buy(0, 7))
        self.assertEqual(answered(*before, load(0, 0, 4), fade(0, 1, 1, 1), fade(1, 1, 1, 1), fade(7, 1, 1, 1))[6:],
                         [0, -2, 0, -2])

    def test_a_refusal_changes_nothing(self):
        machine = machine_after(init(), load(0, 0, 4), coin(9), price(0, 3, 1, 9), buy(0, 0))
        was = picture(machine)
        refused = carry_out(machine, load(0, 4, 4), load(0, 0, 0), load(0, 0, 2049), load(8, 0, 4), load(-1, 0, 4))
        self.assertEqual(refused, [-1] * 5)
        self.assertEqual(picture(machine), was)


class TestPrice(unittest.TestCase):
    def test_it_is_kept(self):
        track = machine_after(init(), load(7, 0, 1), price(7, 15, 10000, MOST)).tracks[7]
        self.assertEqual((track.cost, track.owner, track.share), (MOST, 15, 10000))

    def test_it_is_asked_at_buy(self):
        self.assertEqual(answered(init(), load(0, 0, 1), price(0, 3, 0, 100), buy(0, 0), coin(99), buy(0, 0), coin(1),
                                  buy(0, 0), buy(0, 0)),
                         [0, 0, 0, -2, 0, -2, 0, 0, -2])

    def test_a_later_one_takes_its_place(self):
        machine = machine_after(init(), load(0, 0, 1), price(0, 3, 5, 100), price(0, 4, 6, 0))
        track = machine.tracks[0]
        self.assertEqual((track.cost, track.owner, track.share), (0, 4, 6))

    def test_it_leaves_how_often_it_was_bought_and_who_plays(self):
        machine = machine_after(init(), load(0, 0, 1), buy(0, 0), price(0, 3, 5, 100))
        self.assertEqual(machine.tracks[0].bought, 1)
        self.assertEqual(carry_out(machine, fade(0, 1, 1, 1)), [0])

    def test_the_ranges(self):
        for k in (0, 7):
            for owner in (2, 3, 15):
                for share in (0, 1, 10000):
                    for cents in (0, 1, MOST):
                        self.assertEqual(last(init(), load(k, 0, 1), price(k, owner, share, cents)), 0)

    def test_outside_the_ranges(self):
        ready = (init(), load(0, 0, 1))
        for k in (-1, 8, LEAST_WHOLE, MOST_WHOLE):
            self.assertEqual(last(*ready, price(k, 2, 0, 0)), -1)
        for owner in (-1, 0, 1, 16, LEAST_WHOLE, MOST_WHOLE):
            self.assertEqual(last(*ready, price(0, owner, 0, 0)), -1)
        for share in (-1, 10001, LEAST_WHOLE, MOST_WHOLE):
            self.assertEqual(last(*ready, price(0, 2, share, 0)), -1)

    def test_a_track_that_is_not_loaded(self):
        self.assertEqual(answered(init(), load(0, 0, 1), price(1, 2, 0, 0), price(7, 2, 0, 0)), [0, 0, -1, -1])

    def test_amounts_below_0(self):
        for cents in (-1, -100, -MOST):
            self.assertEqual(last(init(), load(0, 0, 1), price(0, 2, 0, cents)), -1)

    def test_zero_below_zero_is_a_price_of_0(self):
        self.assertEqual(answered(init(), load(0, 0, 1), price_bytes(0, 2, 0, ZERO_BELOW), buy(0, 0)), [0, 0, 0, 0])

    def test_no_amounts(self):
        for row in NO_AMOUNTS:
            self.assertEqual(last(init(), load(0, 0, 1), price_bytes(0, 2, 0, row)), -1)

    def test_a_refusal_changes_nothing(self):
        machine = machine_after(init(), load(0, 0, 1), price(0, 3, 7, 11))
        was = picture(machine)
        refused = carry_out(machine, price(1, 4, 8, 12), price(0, 1, 8, 12), price(0, 16, 8, 12), price(0, 4, -1, 12),
                            price(0, 4, 10001, 12), price(0, 4, 8, -12), price_bytes(0, 4, 8, [10] + amount(0)[1:]))
        self.assertEqual(refused, [-1] * 7)
        self.assertEqual(picture(machine), was)


if __name__ == "__main__":
    unittest.main()
