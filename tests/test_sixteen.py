"""The words that all rests on: held, modulo 2^16, share, portion, size, product; and numbers as bytes."""

import unittest

from softhear.sixteen import added, bytes_of, held, lessened, portion, product, share, sign, size, wrapped


class Words(unittest.TestCase):
    def test_held(self):
        for x, expected in [(0, 0), (32767, 32767), (32768, 32767), (-32768, -32768), (-32769, -32768),
                            (2147483647, 32767), (-2147483648, -32768)]:
            self.assertEqual(held(x), expected)

    def test_wrapped_has_a_sign(self):
        for x, expected in [(0, 0), (32767, 32767), (32768, -32768), (65535, -1), (65536, 0),
                            (-32768, -32768), (-32769, 32767), (-65536, 0)]:
            self.assertEqual(wrapped(x), expected)

    def test_share_rounds_down(self):
        for a, b, expected in [(3, 16384, 1), (-3, 16384, -2), (-1, 1, -1), (1, 32767, 0), (-1, 32767, -1),
                               (32767, 32767, 32766), (-32768, 32767, -32767), (-32768, 0, 0)]:
            self.assertEqual(share(a, b), expected)

    def test_share_is_modulo_and_not_held(self):
        # 2^30 / 2^15 = 32768, one too many.
        self.assertEqual(share(-32768, -32768), -32768)

    def test_portion_rounds_down(self):
        for a, b, expected in [(3, 2048, 1), (-3, 2048, -2), (-1, 1, -1), (1, 4095, 0), (-1, 4095, -1), (7, 4096, 7),
                               (-32768, 4096, -32768), (32767, 0, 0)]:
            self.assertEqual(portion(a, b), expected)

    def test_portion_is_modulo_and_not_held(self):
        # 32768; 8 * 32767 = 4 * 65536 - 8.
        self.assertEqual(portion(8192, 16384), -32768)
        self.assertEqual(portion(-32768, 32767), 8)

    def test_bytes_the_lowest_first(self):
        for x, expected in [(0, [0, 0]), (255, [255, 0]), (256, [0, 1]), (-1, [255, 255]), (-32768, [0, 128]),
                            (32767, [255, 127]), (65535, [255, 255]), (65536, [0, 0])]:
            self.assertEqual(bytes_of(x, 2), expected)
        for x, expected in [(0, [0]), (63, [63]), (-1, [255]), (-64, [192]), (255, [255])]:
            self.assertEqual(bytes_of(x, 1), expected)

    def test_size_is_held(self):
        for x, expected in [(0, 0), (5, 5), (-5, 5), (32767, 32767), (-32767, 32767), (-32768, 32767)]:
            self.assertEqual(size(x), expected)

    def test_sign(self):
        self.assertEqual([sign(x) for x in (-32768, -1, 0, 1, 32767)], [-1, -1, 0, 1, 1])

    def test_product_adds_a_half_and_rounds_down(self):
        self.assertEqual(product([1, 0], [16384, 9]), 1)
        self.assertEqual(product([1, 0], [16383, 9]), 0)
        self.assertEqual(product([-1, 0], [16384, 9]), 0)
        self.assertEqual(product([-1, 0], [16385, 9]), -1)
        # 100 * 300 + 200 * -500 = -70000; -53616 / 32768 = -1.6.
        self.assertEqual(product([100, 200], [300, -500]), -2)

    def test_product_is_held(self):
        self.assertEqual(product([-32768], [-32768]), 32767)
        self.assertEqual(product([32767, 32767], [32767, 32767]), 32767)
        self.assertEqual(product([32767, 32767], [-32768, -32768]), -32768)

    def test_product_sums_before_it_is_held(self):
        self.assertEqual(product([-32768, -32768, 16384], [-32768, -32768, -32768]), 32767)
        self.assertEqual(product([-32768, 32767], [-32768, -32768]), 1)

    def test_rows_number_by_number(self):
        self.assertEqual(added([1, 32767, -32768], [2, 1, -1]), [3, 32767, -32768])
        self.assertEqual(lessened([1, 32767, -32768], [2, -1, 1]), [-1, 32767, -32768])


if __name__ == "__main__":
    unittest.main()
