"""Points 1 and 3: an amount's ten bytes, and to the cent."""

import unittest

from musicbox.amounts import fits, read_amount, read_at_least, write_amount
from musicbox.rounding import to_the_nearest
from tests.helper import MOST, NO_AMOUNTS, ZERO_BELOW, amount

WRITTEN = (
    (0, [0, 0, 0, 0, 0, 0, 0, 0, 0, 0]),
    (1, [1, 0, 0, 0, 0, 0, 0, 0, 0, 0]),
    (-1, [1, 0, 0, 0, 0, 0, 0, 0, 0, 0x80]),
    (10, [0x10, 0, 0, 0, 0, 0, 0, 0, 0, 0]),
    (1234, [0x34, 0x12, 0, 0, 0, 0, 0, 0, 0, 0]),
    (-98765, [0x65, 0x87, 0x09, 0, 0, 0, 0, 0, 0, 0x80]),
    (123456789012345678, [0x78, 0x56, 0x34, 0x12, 0x90, 0x78, 0x56, 0x34, 0x12, 0]),
    (MOST, [0x99] * 9 + [0]),
    (-MOST, [0x99] * 9 + [0x80]),
)


class TestAmounts(unittest.TestCase):
    def test_bytes_are_read(self):
        for cents, row in WRITTEN:
            self.assertEqual(read_amount(row), cents)

    def test_bytes_are_written(self):
        for cents, row in WRITTEN:
            self.assertEqual(write_amount(cents), row)

    def test_the_helpers_bytes(self):
        for cents, row in WRITTEN:
            self.assertEqual(amount(cents), row)

    def test_zero_below_zero_is_zero_and_is_written_with_00(self):
        self.assertEqual(read_amount(ZERO_BELOW), 0)
        self.assertEqual(write_amount(read_amount(ZERO_BELOW)), [0] * 10)

    def test_others_are_no_amounts(self):
        for row in NO_AMOUNTS:
            self.assertIsNone(read_amount(row), row)

    def test_amounts_of_at_least_so_much(self):
        for cents, least, read in ((0, 0, 0), (-1, 0, None), (0, 1, None), (1, 1, 1), (MOST, 1, MOST), (-MOST, 0, None)):
            self.assertEqual(read_at_least(amount(cents), least), read)
        self.assertEqual(read_at_least(ZERO_BELOW, 0), 0)
        for row in NO_AMOUNTS:
            self.assertIsNone(read_at_least(row, 0), row)

    def test_every_byte_in_every_place(self):
        for place in range(9):
            for byte in range(256):
                row = [0] * 10
                row[place] = byte
                digits = f"{byte:02x}"
                cents = int(digits) * 100 ** place if digits.isdigit() else None
                self.assertEqual(read_amount(row), cents)
        for sign in range(256):
            cents = {0x00: 7, 0x80: -7}.get(sign)
            self.assertEqual(read_amount([7] + [0] * 8 + [sign]), cents)

    def test_eighteen_digits_fit_and_no_more(self):
        for cents in (0, MOST, -MOST):
            self.assertTrue(fits(cents))
        for cents in (MOST + 1, -MOST - 1):
            self.assertFalse(fits(cents))


class TestToTheCent(unittest.TestCase):
    def test_the_nearest_of_two_the_even_one(self):
        rows = (
            (0, 10, 0), (4, 10, 0), (5, 10, 0), (6, 10, 1), (14, 10, 1), (15, 10, 2), (16, 10, 2),
            (25, 10, 2), (26, 10, 3), (35, 10, 4), (-4, 10, 0), (-5, 10, 0), (-6, 10, -1),
            (-14, 10, -1), (-15, 10, -2), (-16, 10, -2), (-25, 10, -2), (-26, 10, -3), (20, 10, 2),
        )
        for dividend, divisor, cents in rows:
            self.assertEqual(to_the_nearest(dividend, divisor), cents, dividend)

    def test_great_amounts_keep_every_cent(self):
        self.assertEqual(to_the_nearest(MOST * 10000, 10000), MOST)
        self.assertEqual(to_the_nearest(MOST * 5000, 10000), 5 * 10 ** 17)
        self.assertEqual(to_the_nearest((MOST - 2) * 5000, 10000), 5 * 10 ** 17 - 2)


if __name__ == "__main__":
    unittest.main()
