"""Points 7, 8 and 17, the money: coin, what buy pays to whom, and pay."""

import unittest

from tests.helper import (LEAST_WHOLE, MOST, MOST_WHOLE, NO_AMOUNTS, ZERO_BELOW, answered, buy, carry_out, coin,
                          coin_bytes, init, last, load, machine_after, machine_with, pay, pay_bytes, picture, price)


class TestCoin(unittest.TestCase):
    def test_it_is_taken_from_0_and_added_to_1(self):
        machine = machine_after(init(), coin(250), coin(1))
        self.assertEqual(machine.accounts, [-251, 251] + [0] * 14)

    def test_amounts_above_0(self):
        for cents in (1, 99, 100, 123456789012345678, MOST):
            self.assertEqual(answered(init(), coin(cents)), [0, 0])

    def test_amounts_of_0_or_below(self):
        for cents in (0, -1, -100, -MOST):
            self.assertEqual(last(init(), coin(cents)), -1)
        self.assertEqual(last(init(), coin_bytes(ZERO_BELOW)), -1)

    def test_no_amounts(self):
        for row in NO_AMOUNTS:
            self.assertEqual(last(init(), coin_bytes(row)), -1)

    def test_an_account_that_would_have_more_than_18_digits(self):
        self.assertEqual(answered(init(), coin(MOST - 1), coin(2), coin(1), coin(1)), [0, 0, -2, 0, -2])

    def test_account_0_alone_would_have_more(self):
        calls = (init(), load(0, 0, 1), price(0, 3, 0, MOST), coin(MOST), buy(0, 0), coin(1))
        self.assertEqual(answered(*calls), [0, 0, 0, 0, 0, -2])

    def test_account_1_alone_would_have_more(self):
        machine = machine_with({1: MOST})
        self.assertEqual(carry_out(machine, coin(1)), [-2])
        self.assertEqual(machine.accounts, [0, MOST] + [0] * 14)

    def test_wrong_amounts_come_ahead_of_too_many_digits(self):
        self.assertEqual(answered(init(), coin(MOST), coin(0), coin(-1), coin_bytes([0xFF] * 10), coin(1)),
                         [0, 0, -1, -1, -1, -2])

    def test_a_refusal_changes_nothing(self):
        machine = machine_after(init(), coin(MOST - 5))
        was = picture(machine)
        self.assertEqual(carry_out(machine, coin(6), coin(0), coin(-3), coin_bytes(NO_AMOUNTS[0])), [-2, -1, -1, -1])
        self.assertEqual(picture(machine), was)


class TestPayment(unittest.TestCase):
    def accounts(self, owner, share, cost, coins):
        return machine_after(init(), load(0, 0, 1), price(0, owner, share, cost), coin(coins), buy(0, 0)).accounts

    def test_the_owner_and_the_house_share_it(self):
        self.assertEqual(self.accounts(5, 2500, 1000, 1500), [-1500, 500, 750, 0, 0, 250] + [0] * 10)

    def test_nothing_and_all(self):
        self.assertEqual(self.accounts(15, 0, 70, 70), [-70, 0, 70] + [0] * 13)
        self.assertEqual(self.accounts(15, 10000, 70, 70), [-70, 0, 0] + [0] * 12 + [70])

    def test_the_house_is_the_owner(self):
        self.assertEqual(self.accounts(2, 3333, 70, 71), [-71, 1, 70] + [0] * 13)

    def test_to_the_cent_of_two_the_even_one(self):
        rows = ((1, 5000, 0), (3, 5000, 2), (5, 5000, 2), (7, 5000, 4), (1, 4999, 0), (1, 5001, 1), (101, 2500, 25),
                (102, 2500, 26), (106, 2500, 26), (10000, 1, 1), (5000, 1, 0), (5001, 1, 1), (15000, 1, 2))
        for cost, share, part in rows:
            self.assertEqual(self.accounts(3, share, cost, cost)[:4], [-cost, 0, cost - part, part])

    def test_eighteen_digits(self):
        self.assertEqual(self.accounts(3, 5000, MOST, MOST)[:4], [-MOST, 0, 499999999999999999, 500000000000000000])
        self.assertEqual(self.accounts(3, 10000, MOST, MOST)[:4], [-MOST, 0, 0, MOST])

    def test_the_price_of_the_moment_is_paid(self):
        machine = machine_after(init(), load(0, 0, 1), price(0, 3, 10000, 10), coin(100), buy(0, 0),
                                price(0, 4, 10000, 20), buy(0, 0))
        self.assertEqual(machine.accounts[:5], [-100, 70, 0, 10, 20])

    def test_too_little(self):
        calls = (init(), load(0, 0, 1), price(0, 3, 1, 10), coin(9), buy(0, 0), coin(1), buy(0, 0), buy(0, 0))
        self.assertEqual(answered(*calls), [0, 0, 0, 0, -2, 0, 0, -2])

    def test_less_than_nothing_is_less_than_a_price_of_0(self):
        self.assertEqual(carry_out(machine_with({1: -1}, load(0, 0, 1)), buy(0, 0)), [-2])
        self.assertEqual(carry_out(machine_with({1: 0}, load(0, 0, 1)), buy(0, 0)), [0])

    def test_the_owner_would_have_more_than_18_digits(self):
        ready = (load(0, 0, 1), price(0, 9, 10000, 10), coin(10))
        self.assertEqual(carry_out(machine_with({9: MOST - 10}, *ready), buy(0, 0)), [0])
        self.refused_unchanged(machine_with({9: MOST - 9}, *ready), -3)

    def test_the_house_would_have_more_than_18_digits(self):
        ready = (load(0, 0, 1), price(0, 9, 5000, 10), coin(10))
        self.assertEqual(carry_out(machine_with({2: MOST - 5}, *ready), buy(0, 0)), [0])
        self.refused_unchanged(machine_with({2: MOST - 4}, *ready), -3)

    def test_the_house_as_owner_would_have_more_than_18_digits(self):
        ready = (load(0, 0, 1), price(0, 2, 5000, 10), coin(10))
        self.assertEqual(carry_out(machine_with({2: MOST - 10}, *ready), buy(0, 0)), [0])
        self.refused_unchanged(machine_with({2: MOST - 9}, *ready), -3)

    def test_an_account_far_below_0_is_paid_into(self):
        machine = machine_with({2: -MOST, 9: -MOST}, load(0, 0, 1), price(0, 9, 5000, 10), coin(10))
        self.assertEqual(carry_out(machine, buy(0, 0)), [0])
        self.assertEqual((machine.accounts[2], machine.accounts[9]), (5 - MOST, 5 - MOST))

    def test_too_little_comes_ahead_of_too_many_digits(self):
        self.refused_unchanged(machine_with({2: MOST}, load(0, 0, 1), price(0, 2, 0, 10), coin(9)), -2)

    def test_numbers_out_of_range_come_ahead_of_both(self):
        machine = machine_with({2: MOST}, load(0, 0, 1), price(0, 2, 0, 10), coin(9))
        wrong = (buy(1, 0), buy(8, 0), buy(0, 8), buy(0, 0, left=-1), buy(0, 0, right=32768), buy(0, 0, step=0))
        self.assertEqual(carry_out(machine, *wrong), [-1] * 6)
        machine.accounts[1] = 10
        self.assertEqual(carry_out(machine, *wrong, buy(0, 0)), [-1] * 6 + [-3])

    def refused_unchanged(self, machine, refusal):
        was = picture(machine)
        self.assertEqual(carry_out(machine, buy(0, 0)), [refusal])
        self.assertEqual(picture(machine), was)

    def test_what_was_put_in_is_spent_and_no_more(self):
        paid = (init(), load(0, 0, 1), load(1, 0, 1), price(0, 3, 4000, 30), price(1, 4, 1, 1), coin(100))
        self.assertEqual(answered(*paid, buy(0, 0), buy(0, 1), buy(0, 2), buy(0, 3), price(1, 4, 1, 11), buy(1, 3),
                                  price(1, 4, 1, 10), buy(1, 3), buy(1, 3))[6:],
                         [0, 0, 0, -2, 0, -2, 0, 0, -2])

    def test_a_coin_that_fits_again_after_a_buy(self):
        machine = machine_with({0: 0, 1: MOST}, load(0, 0, 1), price(0, 3, 0, 7))
        self.assertEqual(carry_out(machine, coin(7), buy(0, 0), coin(8), coin(7)), [-2, 0, -2, 0])
        self.assertEqual(machine.accounts[:4], [-7, MOST, 7, 0])


class TestPay(unittest.TestCase):
    def test_taken_from_one_and_added_to_the_other(self):
        machine = machine_after(init(), pay(0, 15, 250), pay(15, 7, 100), pay(7, 0, 1))
        self.assertEqual(machine.accounts, [-249, 0, 0, 0, 0, 0, 0, 99, 0, 0, 0, 0, 0, 0, 0, 150])

    def test_every_account_may_pay_every_other(self):
        for payer in range(16):
            for to in range(16):
                if payer != to:
                    expected = [0] * 16
                    expected[payer] = -5
                    expected[to] = 5
                    self.assertEqual(machine_after(init(), pay(payer, to, 5)).accounts, expected)

    def test_to_itself_nothing_is_changed(self):
        for cents in (0, 1, MOST):
            for balance in (0, 7, MOST, -MOST):
                machine = machine_with({4: balance})
                self.assertEqual(carry_out(machine, pay(4, 4, cents)), [0])
                self.assertEqual(machine.accounts, [0] * 4 + [balance] + [0] * 11)

    def test_an_amount_of_0(self):
        machine = machine_with({3: MOST, 4: -MOST})
        was = picture(machine)
        self.assertEqual(carry_out(machine, pay(4, 3, 0), pay_bytes(4, 3, ZERO_BELOW)), [0, 0])
        self.assertEqual(picture(machine), was)

    def test_amounts_of_18_digits(self):
        machine = machine_after(init(), pay(3, 4, MOST))
        self.assertEqual(machine.accounts[3:5], [-MOST, MOST])
        self.assertEqual(carry_out(machine, pay(4, 3, MOST), pay(4, 3, MOST)), [0, 0])
        self.assertEqual(machine.accounts[3:5], [MOST, -MOST])

    def test_an_account_that_would_have_more_than_18_digits(self):
        self.assertEqual(answered(init(), pay(3, 4, MOST), pay(5, 4, 1), pay(3, 5, 1), pay(5, 3, 1), pay(4, 3, 1)),
                         [0, 0, -2, -2, 0, 0])
        for balances in ({4: MOST - 9}, {3: 9 - MOST}):
            machine = machine_with(balances)
            was = picture(machine)
            self.assertEqual(carry_out(machine, pay(3, 4, 10)), [-2])
            self.assertEqual(picture(machine), was)
            self.assertEqual(carry_out(machine, pay(3, 4, 9)), [0])

    def test_outside_the_ranges(self):
        for account in (-1, 16, LEAST_WHOLE, MOST_WHOLE):
            self.assertEqual(answered(init(), pay(account, 3, 1), pay(3, account, 1), pay(account, account, 1)),
                             [0, -1, -1, -1])

    def test_amounts_below_0_and_no_amounts(self):
        for cents in (-1, -100, -MOST):
            self.assertEqual(answered(init(), pay(3, 4, cents), pay(3, 3, cents)), [0, -1, -1])
        for row in NO_AMOUNTS:
            self.assertEqual(answered(init(), pay_bytes(3, 4, row), pay_bytes(3, 3, row)), [0, -1, -1])

    def test_minus_1_comes_ahead_of_too_many_digits(self):
        machine = machine_with({3: -MOST, 4: MOST})
        was = picture(machine)
        wrong = (pay(3, 16, 1), pay(-1, 4, 1), pay(3, 4, -1), pay_bytes(3, 4, NO_AMOUNTS[0]), pay(3, 4, 1))
        self.assertEqual(carry_out(machine, *wrong), [-1, -1, -1, -1, -2])
        self.assertEqual(picture(machine), was)


if __name__ == "__main__":
    unittest.main()
