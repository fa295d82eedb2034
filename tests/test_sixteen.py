"""The words that all steps rest on: held, modulo 2^16, share, size, product."""

import unittest

from softhear.sixteen import added, held, lessened, product, share, sign, size, wrapped


class Words(unittest.TestCase):
    def test_held(self):
        for x, expected in [(0, 0), (32767, 32767), (32768, 32767), (-32768, -32768), (-32769, -32768),
                            (2147483647, 32767), (-2147483648, -32768)]:
            self.assertEqual(held(x), expected)

    def test_wrapped_has_a_sign(self):
        for x, expected in [(0, 0), (32767, 32767), (32768, -32768), (65535, -1), (65536, 0),
                            (-32768, -32768), (-32769, 32767), (-65536, 0)]:
            self.assertEqual(wrapped(x), expected)

    def test_share_rounds_down(self):
        for a, b, expected in [(3, 16384, 1), (-3, 16384, -2), (-1, 1, -1), (1, 32767, 0), (-1, 32767, -1),
                               (32767, 32767, 32766), (-32768, 32767, -32767), (-32768, 0, 0)]:
            self.assertEqual(share(a, b), expected)

    def test_share_is_modulo_and_not_held(self):
        # 2^30 / 2^15 = 32768, one too many.
        self.assertEqual(share(-32768, -32768), -32768)

    def test_size_is_held(self):
        for x, expected in [(0, 0), (5, 5), (-5, 5), (32767, 32767), (-32767, 32767), (-32768, 32767)]:
            self.assertEqual(size(x), expected)

    def test_sign(self):
        self.assertEqual([sign(x) for x in (-32768, -1, 0, 1, 32767)], [-1, -1, 0, 1, 1])

    def test_product_adds_a_half_and_rounds_down(self):
        self.assertEqual(product([1, 0], [16384, 9]), 1)
        self.assertEqual(product([1, 0], [16383, 9]), 0)
        self.assertEqual(product([-1, 0], [16384, 9]), 0)
        self.assertEqual(product([-1, 0], [16385, 9]), -1)
        # 100 * 300 + 200 * -500 = -70000; -53616 / 32768 = -1.6.
        self.assertEqual(product([100, 200], [300, -500]), -2)

    def test_product_is_held(self):
        self.assertEqual(product([-32768], [-32768]), 32767)
        self.assertEqual(product([32767, 32767], [32767, 32767]), 32767)
        self.assertEqual(product([32767, 32767], [-32768, -32768]), -32768)

    def test_product_sums_before_it_is_held(self):
        self.assertEqual(product([-32768, -32768, 16384], [-32768, -32768, -32768]), 32767)
        self.assertEqual(product([-32768, 32767], [-32768, -32768]), 1)

    def test_rows_number_by_number(self):
        self.assertEqual(added([1, 32767, -32768], [2, 1, -1]), [3, 32767, -32768])
        self.assertEqual(lessened([1, 32767, -32768], [2, -1, 1]), [-1, 32767, -32768])


if __name__ == "__main__":
    unittest.main()
