"""Point 2: held, scaled, between, and samples in eight bits."""

import unittest

from musicbox.samples import between, held, in_eight_bits, low_bytes, scaled


class TestSamples(unittest.TestCase):
    def test_held(self):
        rows = ((0, 0), (-1, -1), (32766, 32766), (32767, 32767), (32768, 32767), (10 ** 9, 32767), (-32767, -32767),
                (-32768, -32768), (-32769, -32768), (-10 ** 9, -32768))
        for number, sample in rows:
            self.assertEqual(held(number), sample)

    def test_scaled_by_1_0_and_more(self):
        for sample in (-32768, -1, 0, 1, 32767):
            self.assertEqual(scaled(sample, 16384), sample)
            self.assertEqual(scaled(sample, 0), 0)
        self.assertEqual(scaled(16384, 32767), 32767)
        self.assertEqual(scaled(16385, 32767), 32767)
        self.assertEqual(scaled(16383, 32767), 32765)
        self.assertEqual(scaled(-16384, 32767), -32767)
        self.assertEqual(scaled(-16385, 32767), -32768)
        self.assertEqual(scaled(-32768, 32767), -32768)

    def test_scaled_halves_go_up_also_below_0(self):
        for sample, half in ((1, 1), (3, 2), (5, 3), (-1, 0), (-3, -1), (-5, -2)):
            self.assertEqual(scaled(sample, 8192), half)
        self.assertEqual((scaled(1, 8191), scaled(1, 8193), scaled(-1, 8191), scaled(-1, 8193)), (0, 1, 0, -1))

    def test_between(self):
        self.assertEqual(between(1000, 2000, 0), 1000)
        self.assertEqual(between(1000, 2000, 4096), 1250)
        self.assertEqual(between(-1000, 3000, 8192), 1000)
        self.assertEqual(between(32767, -32768, 16383), -32764)
        self.assertEqual(between(32767, 32767, 12345), 32767)
        self.assertEqual(between(-32768, -32768, 12345), -32768)

    def test_between_halves_go_up_also_below_0(self):
        for behind, half in ((1, 1), (3, 2), (-1, 0), (-3, -1)):
            self.assertEqual(between(0, behind, 8192), half)
        self.assertEqual((between(0, 1, 8191), between(0, -1, 8193), between(0, -1, 8192)), (0, -1, 0))

    def test_in_eight_bits(self):
        rows = ((0, 0), (127, 0), (128, 1), (383, 1), (384, 2), (-128, 0), (-129, -1), (-384, -1), (-385, -2), (32639, 127),
                (32640, 127), (32767, 127), (-32640, -127), (-32641, -128), (-32768, -128))
        for sample, short in rows:
            self.assertEqual(in_eight_bits(sample), short, sample)

    def test_low_bytes(self):
        self.assertEqual(low_bytes(0x01020304, 4), [4, 3, 2, 1])
        self.assertEqual(low_bytes(32767, 2), [255, 127])
        self.assertEqual(low_bytes(-32768, 2), [0, 128])
        self.assertEqual(low_bytes(-2, 2), [254, 255])
        self.assertEqual(low_bytes(-128, 1), [128])
        self.assertEqual(low_bytes(5, 8), [5, 0, 0, 0, 0, 0, 0, 0])


if __name__ == "__main__":
    unittest.main()
