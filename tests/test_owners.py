"""Points 18 and 19: interest and bonus."""

import unittest
from fractions import Fraction

from tests.helper import (LEAST_WHOLE, MOST, MOST_WHOLE, NO_AMOUNTS, ZERO_BELOW, answered, bonus, bonus_bytes, buy,
                          carry_out, init, interest, last, load, machine_after, machine_with, pay, picture, price)


def balances(machine):
    """The accounts that aren't 0."""
    return {account: cents for account, cents in enumerate(machine.accounts) if cents != 0}


class TestInterest(unittest.TestCase):
    def after(self, accounts, *calls):
        machine = machine_with(accounts)
        self.assertEqual(carry_out(machine, *calls), [0] * len(calls))
        return balances(machine)

    def test_one_period(self):
        self.assertEqual(self.after({3: 1000}, interest(3, 10000, 1)), {2: -100, 3: 1100})
        self.assertEqual(self.after({2: 500, 15: 1000}, interest(15, 1, 1)), {2: 500, 15: 1000})
        self.assertEqual(self.after({2: 500, 15: 100000}, interest(15, 1, 1)), {2: 499, 15: 100001})

    def test_period_by_period(self):
        self.assertEqual(self.after({3: 1000}, interest(3, 10000, 3)), {2: -331, 3: 1331})
        self.assertEqual(self.after({3: 15}, interest(3, 10000, 2)), {2: -4, 3: 19})

    def test_to_the_cent_of_two_the_even_one(self):
        rows = ((5, 0), (6, 1), (15, 2), (25, 2), (26, 3), (35, 4), (-5, 0), (-6, -1), (-15, -2), (-25, -2), (-35, -4))
        for balance, cents in rows:
            machine = machine_with({7: balance})
            carry_out(machine, interest(7, 10000, 1))
            self.assertEqual((machine.accounts[7], machine.accounts[2]), (balance + cents, -cents))
            carry_out(machine, interest(7, 0, 1))
            self.assertEqual((machine.accounts[7], machine.accounts[2]), (balance + cents, -cents))

    def test_a_rate_below_0(self):
        self.assertEqual(self.after({3: 1000}, interest(3, -10000, 2)), {2: 190, 3: 810})
        self.assertEqual(self.after({3: -1000}, interest(3, -10000, 1)), {2: -100, 3: -900})

    def test_a_balance_below_0(self):
        self.assertEqual(self.after({3: -1000}, interest(3, 10000, 2)), {2: 210, 3: -1210})

    def test_the_ends_of_the_rate(self):
        self.assertEqual(self.after({3: 7}, interest(3, 100000, 4)), {2: -105, 3: 112})
        self.assertEqual(self.after({3: 7}, interest(3, -100000, 1)), {2: 7})
        self.assertEqual(self.after({3: 7}, interest(3, -100000, 1200)), {2: 7})

    def test_a_rate_of_0(self):
        self.assertEqual(self.after({3: MOST, 2: -MOST}, interest(3, 0, 1200)), {2: -MOST, 3: MOST})

    def test_1200_periods(self):
        for balance, rate in ((12345, 417), (-98765, 250), (10 ** 12, -333), (555, 999), (10 ** 17, 1)):
            expected = balance
            for period in range(1200):
                expected += round(Fraction(expected * rate, 100000))
            self.assertEqual(self.after({4: balance, 2: 1}, interest(4, rate, 1200)),
                             {2: 1 + balance - expected, 4: expected})

    def test_many_calls_are_as_many_periods(self):
        at_once = self.after({9: 123456}, interest(9, 777, 12))
        self.assertEqual(self.after({9: 123456}, *[interest(9, 777, 1)] * 12), at_once)

    def refused_unchanged(self, accounts, *calls):
        machine = machine_with(accounts)
        was = picture(machine)
        self.assertEqual(carry_out(machine, *calls), [-2] * len(calls))
        self.assertEqual(picture(machine), was)

    def test_more_than_18_digits_in_a_period_in_the_middle(self):
        self.assertEqual(self.after({3: 1}, interest(3, 100000, 59)), {2: 1 - 2 ** 59, 3: 2 ** 59})
        self.refused_unchanged({3: 1}, interest(3, 100000, 60), interest(3, 100000, 61), interest(3, 100000, 1200))
        self.refused_unchanged({3: -1}, interest(3, 100000, 60), interest(3, 100000, 1200))

    def test_the_owners_account_alone_would_have_more(self):
        self.refused_unchanged({3: MOST, 2: 10 ** 17}, interest(3, 1000, 1))
        self.refused_unchanged({3: -MOST, 2: -10 ** 17}, interest(3, 1000, 1))
        self.assertEqual(self.after({3: MOST - 1, 2: 5}, interest(3, -1, 1)),
                         {2: 5 + 10 ** 13, 3: MOST - 1 - 10 ** 13})

    def test_account_2_alone_would_have_more(self):
        self.assertEqual(self.after({3: 1000, 2: 100 - MOST}, interest(3, 10000, 1)), {2: -MOST, 3: 1100})
        self.refused_unchanged({3: 1000, 2: 99 - MOST}, interest(3, 10000, 1))
        self.refused_unchanged({3: 1000, 2: 100 - MOST}, interest(3, 10000, 2))
        self.refused_unchanged({3: 1000, 2: MOST - 99}, interest(3, -10000, 1))
        self.assertEqual(self.after({3: 1000, 2: MOST - 100}, interest(3, -10000, 1)), {2: MOST, 3: 900})

    def test_the_ranges(self):
        for a in (3, 15):
            for rate in (-100000, -1, 0, 1, 100000):
                for periods in (1, 2, 1199, 1200):
                    self.assertEqual(last(init(), interest(a, rate, periods)), 0)

    def test_outside_the_ranges(self):
        for a in (-1, 0, 1, 2, 16, LEAST_WHOLE, MOST_WHOLE):
            self.assertEqual(last(init(), interest(a, 1, 1)), -1)
        for rate in (-100001, 100001, LEAST_WHOLE, MOST_WHOLE):
            self.assertEqual(last(init(), interest(3, rate, 1)), -1)
        for periods in (-1, 0, 1201, LEAST_WHOLE, MOST_WHOLE):
            self.assertEqual(last(init(), interest(3, 1, periods)), -1)

    def test_minus_1_comes_ahead_of_too_many_digits(self):
        machine = machine_with({3: MOST, 2: -MOST})
        was = picture(machine)
        wrong = (interest(3, 100001, 1), interest(3, 100000, 1201), interest(2, 100000, 1), interest(3, 100000, 1))
        self.assertEqual(carry_out(machine, *wrong), [-1, -1, -1, -2])
        self.assertEqual(picture(machine), was)


def bought(*tracks):
    """Calls that load tracks 0 on, each of an owner and bought so many times; they cost nothing."""
    calls = []
    for k, (owner, times) in enumerate(tracks):
        calls += [load(k, 0, 1), price(k, owner, 0, 0)] + [buy(k, 0)] * times
    return calls


class TestBonus(unittest.TestCase):
    def after(self, cents, *tracks):
        machine = machine_after(init(), *bought(*tracks))
        self.assertEqual(carry_out(machine, bonus(cents)), [0])
        return balances(machine)

    def test_by_how_often_they_were_bought(self):
        self.assertEqual(self.after(100, (3, 1), (15, 3)), {2: -100, 3: 25, 15: 75})

    def test_one_owner_has_it_all(self):
        for cents in (1, 7, MOST):
            self.assertEqual(self.after(cents, (9, 3)), {2: -cents, 9: cents})

    def test_equal_remainders_the_lower_account_first(self):
        self.assertEqual(self.after(100, (5, 1), (3, 1), (4, 1)), {2: -100, 3: 34, 4: 33, 5: 33})
        self.assertEqual(self.after(101, (5, 1), (3, 1), (4, 1)), {2: -101, 3: 34, 4: 34, 5: 33})
        self.assertEqual(self.after(1, (15, 2), (14, 2)), {2: -1, 14: 1})

    def test_the_greatest_remainders_first(self):
        self.assertEqual(self.after(100, (3, 1), (4, 2)), {2: -100, 3: 33, 4: 67})
        self.assertEqual(self.after(10, (3, 1), (4, 3), (5, 3)), {2: -10, 3: 2, 4: 4, 5: 4})
        self.assertEqual(self.after(1, (3, 1), (4, 3), (5, 2)), {2: -1, 4: 1})
        self.assertEqual(self.after(2, (3, 1), (4, 3), (5, 2)), {2: -2, 4: 1, 5: 1})

    def test_less_cents_than_owners(self):
        self.assertEqual(self.after(2, (6, 1), (7, 1), (8, 1), (9, 1)), {2: -2, 6: 1, 7: 1})

    def test_tracks_of_one_owner_count_together(self):
        self.assertEqual(self.after(11, (5, 2), (6, 5), (5, 3)), {2: -11, 5: 6, 6: 5})
        self.assertEqual(self.after(3, (5, 1), (4, 1), (5, 1)), {2: -3, 4: 1, 5: 2})

    def test_tracks_of_account_2_do_not_count(self):
        self.assertEqual(self.after(10, (2, 7), (3, 1), (4, 1)), {2: -10, 3: 5, 4: 5})

    def test_owners_of_tracks_that_were_not_bought(self):
        self.assertEqual(self.after(10, (3, 0), (4, 1), (5, 0)), {2: -10, 4: 10})

    def test_eighteen_digits_keep_every_cent(self):
        self.assertEqual(self.after(MOST, (3, 1), (4, 1)), {2: -MOST, 3: 5 * 10 ** 17, 4: MOST - 5 * 10 ** 17})
        self.assertEqual(self.after(MOST - 1, (3, 2), (4, 5)),
                         {2: 1 - MOST, 3: 285714285714285714, 4: MOST - 1 - 285714285714285714})

    def test_great_counts(self):
        machine = machine_after(init(), *bought((3, 0), (3, 0), (4, 0)))
        for track in machine.tracks[:3]:
            track.bought = 2 ** 32 - 1
        self.assertEqual(carry_out(machine, bonus(MOST)), [0])
        self.assertEqual(balances(machine), {2: -MOST, 3: MOST // 3 * 2, 4: MOST // 3})

    def test_the_owner_of_now_has_it(self):
        machine = machine_after(init(), *bought((3, 2), (4, 2)), price(0, 5, 0, 0))
        carry_out(machine, bonus(10))
        self.assertEqual(balances(machine), {2: -10, 4: 5, 5: 5})

    def test_since_they_were_loaded(self):
        machine = machine_after(init(), *bought((3, 2), (4, 2)), load(0, 0, 1), price(0, 3, 0, 0))
        carry_out(machine, bonus(10))
        self.assertEqual(balances(machine), {2: -10, 4: 10})

    def test_since_a_bonus_was_given(self):
        machine = machine_after(init(), *bought((3, 2), (4, 2)), bonus(10), buy(1, 0), bonus(10))
        self.assertEqual(balances(machine), {2: -20, 3: 5, 4: 15})
        self.assertEqual(answered(init(), *bought((3, 1)), bonus(10), bonus(10))[4:], [0, -3])

    def test_then_no_track_has_been_bought_those_of_account_2_either(self):
        ready = (init(), *bought((2, 1), (3, 1)), bonus(10))
        self.assertEqual([track.bought for track in machine_after(*ready).tracks[:2]], [0, 0])
        self.assertEqual(last(*ready, price(0, 4, 0, 0), bonus(10)), -3)

    def test_none_had_been_bought(self):
        self.assertEqual(last(init(), bonus(1)), -3)
        self.assertEqual(last(init(), *bought((3, 0)), bonus(1)), -3)
        self.assertEqual(last(init(), *bought((2, 4), (3, 0)), bonus(1)), -3)

    def test_a_refusal_leaves_what_was_bought(self):
        calls = (init(), *bought((2, 4)), bonus(1), price(0, 3, 0, 0), bonus(1))
        self.assertEqual(answered(*calls)[-3:], [-3, 0, 0])

    def refused_unchanged(self, accounts, cents, refusal, *tracks):
        machine = machine_with(accounts, *bought(*tracks))
        was = picture(machine)
        self.assertEqual(carry_out(machine, bonus(cents)), [refusal])
        self.assertEqual(picture(machine), was)

    def test_account_2_would_have_more_than_18_digits(self):
        self.refused_unchanged({2: 9 - MOST}, 10, -2, (3, 1))
        machine = machine_with({2: 10 - MOST}, *bought((3, 1)))
        self.assertEqual(carry_out(machine, bonus(10)), [0])
        self.assertEqual(balances(machine), {2: -MOST, 3: 10})

    def test_an_owner_would_have_more_than_18_digits(self):
        self.refused_unchanged({15: MOST - 4}, 10, -2, (3, 1), (15, 1))
        machine = machine_with({15: MOST - 5}, *bought((3, 1), (15, 1)))
        self.assertEqual(carry_out(machine, bonus(10)), [0])
        self.assertEqual(balances(machine), {2: -10, 3: 5, 15: MOST})

    def test_none_bought_comes_ahead_of_too_many_digits(self):
        self.refused_unchanged({2: -MOST}, 1, -3, (2, 1), (3, 0))
        self.refused_unchanged({2: -MOST}, 1, -2, (2, 1), (3, 1))

    def test_amounts_of_0_or_below_and_no_amounts_come_ahead_of_all(self):
        wrong = [bonus(0), bonus(-1), bonus(-MOST), bonus_bytes(ZERO_BELOW)] + [bonus_bytes(row) for row in NO_AMOUNTS]
        for tracks in ((), ((3, 1),)):
            for accounts in ({}, {2: -MOST}):
                machine = machine_with(accounts, *bought(*tracks))
                was = picture(machine)
                self.assertEqual(carry_out(machine, *wrong), [-1] * len(wrong))
                self.assertEqual(picture(machine), was)

    def test_other_accounts_stay(self):
        machine = machine_after(init(), pay(0, 1, 70), pay(5, 6, 80), *bought((5, 1), (7, 1)), bonus(10))
        self.assertEqual(balances(machine), {0: -70, 1: 70, 2: -10, 5: -75, 6: 80, 7: 5})


if __name__ == "__main__":
    unittest.main()
