"""Points 20 and 21: tell, owed and text."""

import unittest

from tests.helper import (LEAST_WHOLE, MOST, MOST_WHOLE, amount, carry_out, carry_out_whole, coin, init, last_whole,
                          machine_with, owed, pay, picture, tell, text, whole_answers)

TEXTS = (
    (0, "0.00"),
    (1, "0.01"),
    (-1, "-0.01"),
    (10, "0.10"),
    (99, "0.99"),
    (-99, "-0.99"),
    (100, "1.00"),
    (-100, "-1.00"),
    (1234, "12.34"),
    (99999, "999.99"),
    (-99999, "-999.99"),
    (100000, "1,000.00"),
    (-123456, "-1,234.56"),
    (12345678, "123,456.78"),
    (-99999999, "-999,999.99"),
    (100000000, "1,000,000.00"),
    (99999999999, "999,999,999.99"),
    (-100000000005, "-1,000,000,000.05"),
    (99999999999999, "999,999,999,999.99"),
    (100000000000000, "1,000,000,000,000.00"),
    (-99999999999999999, "-999,999,999,999,999.99"),
    (100000000000000000, "1,000,000,000,000,000.00"),
    (123456789012345678, "1,234,567,890,123,456.78"),
    (MOST, "9,999,999,999,999,999.99"),
    (-MOST, "-9,999,999,999,999,999.99"),
)


class TestTell(unittest.TestCase):
    def test_an_account_as_an_amount(self):
        self.assertEqual(whole_answers(init(), coin(1234), tell(0), tell(1), tell(15))[2:],
                         [[0, 0x34, 0x12, 0, 0, 0, 0, 0, 0, 0, 0x80], [0, 0x34, 0x12, 0, 0, 0, 0, 0, 0, 0, 0], [0] * 11])

    def test_each_account(self):
        machine = machine_with({a: (a - 7) * 1001 for a in range(16)})
        for a in range(16):
            self.assertEqual(carry_out_whole(machine, tell(a)), [[0] + amount((a - 7) * 1001)])

    def test_eighteen_digits(self):
        for cents in (MOST, 123456789012345678):
            self.assertEqual(whole_answers(init(), pay(3, 15, cents), tell(3), tell(15))[2:],
                             [[0] + amount(-cents), [0] + amount(cents)])

    def test_0_is_written_with_00(self):
        self.assertEqual(last_whole(init(), pay(3, 4, 5), pay(4, 3, 5), tell(3)), [0] * 11)

    def test_outside_the_range(self):
        for a in (-1, 16, LEAST_WHOLE, MOST_WHOLE):
            self.assertEqual(last_whole(init(), tell(a)), [-1])


class TestOwed(unittest.TestCase):
    def owed(self, accounts):
        return carry_out_whole(machine_with(accounts), owed())[0]

    def test_nothing(self):
        self.assertEqual(last_whole(init(), owed()), [0] * 11)

    def test_accounts_1_to_15(self):
        for a in range(1, 16):
            self.assertEqual(self.owed({a: 77}), [0] + amount(77))
        self.assertEqual(self.owed({a: 10 ** (a - 1) for a in range(1, 16)}), [0] + amount(111111111111111))

    def test_account_0_is_not_owed(self):
        self.assertEqual(self.owed({0: 500, 3: 7}), [0] + amount(7))

    def test_those_below_0_are_left_out(self):
        self.assertEqual(self.owed({1: 5, 2: -MOST, 3: 6, 15: -1}), [0] + amount(11))
        self.assertEqual(self.owed({1: -5, 2: -6}), [0] * 11)
        self.assertEqual(last_whole(init(), pay(3, 4, 100), pay(5, 6, 20), owed()), [0] + amount(120))

    def test_more_than_18_digits(self):
        self.assertEqual(self.owed({3: MOST}), [0] + amount(MOST))
        self.assertEqual(self.owed({3: MOST - 1, 4: 1, 5: -9}), [0] + amount(MOST))
        self.assertEqual(self.owed({3: MOST, 4: 1}), [-2])
        self.assertEqual(self.owed({3: MOST, 4: 1, 5: -MOST}), [-2])
        self.assertEqual(self.owed({a: MOST for a in range(16)}), [-2])
        self.assertEqual(last_whole(init(), pay(0, 3, MOST), pay(5, 4, 1), owed()), [-2])


class TestText(unittest.TestCase):
    def written(self, cents, a=3):
        return carry_out_whole(machine_with({a: cents}), text(a))[0]

    def test_as_it_is_written(self):
        for cents, written in TEXTS:
            expected = " " * (25 - len(written)) + written
            self.assertEqual(self.written(cents), [0] + list(expected.encode("ascii")) + [0], cents)

    def test_every_number_of_digits(self):
        for digits in range(1, 19):
            for cents in (int("1234567890" * 2) // 10 ** (20 - digits), 10 ** (digits - 1), 10 ** digits - 1):
                for signed in (cents, -cents):
                    sign = "-" if signed < 0 else ""
                    expected = f"{sign}{cents // 100:,}.{cents % 100:02}".rjust(25)
                    self.assertEqual(bytes(self.written(signed)[1:]).decode("ascii"), expected + "\0")

    def test_each_account(self):
        for a in range(16):
            expected = f"-{a}.05".rjust(25)
            self.assertEqual(self.written(-100 * a - 5, a), [0] + list(expected.encode("ascii")) + [0])

    def test_the_longest_fills_it_all(self):
        self.assertEqual(self.written(-MOST), [0] + list(b"-9,999,999,999,999,999.99") + [0])

    def test_outside_the_range(self):
        for a in (-1, 16, LEAST_WHOLE, MOST_WHOLE):
            self.assertEqual(last_whole(init(), text(a)), [-1])


class TestNothingIsChanged(unittest.TestCase):
    def test_by_any_of_them(self):
        machine = machine_with({0: -5, 3: MOST, 4: 7})
        was = picture(machine)
        self.assertEqual(carry_out(machine, tell(3), tell(16), owed(), text(3), text(-1)), [0, -1, -2, 0, -1])
        self.assertEqual(picture(machine), was)


if __name__ == "__main__":
    unittest.main()
