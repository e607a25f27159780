"""Promise 2, of which sg_power, and the refusals -3 and -2 ahead of it."""

import time
import unittest

from groups import GOOD_GROUPS, LARGE_GROUPS, NOT_GOOD_GROUPS, SAFE_PRIME, TOP, some_elements, some_numbers
from powershown.knowing import sg_power


class Power(unittest.TestCase):
    def test_written_out(self):
        self.assertEqual(sg_power(23, 11, 2, 2, 10), [0, 12])
        self.assertEqual(sg_power(23, 11, 2, 3, 4), [0, 12])
        self.assertEqual(sg_power(23, 11, 2, 2, 5), [0, 9])
        self.assertEqual(sg_power(3, 2, 2, 2, 1), [0, 2])
        self.assertEqual(sg_power(7, 3, 2, 4, 2), [0, 2])

    def test_every_input_of_small_groups(self):
        for p, q, g in ((3, 2, 2), (7, 3, 2), (7, 3, 4), (11, 5, 3), (13, 3, 3), (23, 11, 2), (31, 5, 2)):
            for base in range(2 * p + 2):
                fits = 1 <= base <= p - 1 and base ** q % p == 1
                for x in range(2 * q + 2):
                    expected = [0, base ** x % p] if fits and x < q else [-2]
                    self.assertEqual(sg_power(p, q, g, base, x), expected, (p, q, g, base, x))

    def test_powers_of_many_groups(self):
        for p, q, g in GOOD_GROUPS:
            for base in some_elements(p, q, g):
                for x in some_numbers(q):
                    self.assertEqual(sg_power(p, q, g, base, x), [0, pow(base, x, p)], (p, q, g, base, x))

    def test_power_0_is_1_and_power_1_is_the_base(self):
        for p, q, g in GOOD_GROUPS:
            for base in some_elements(p, q, g):
                self.assertEqual(sg_power(p, q, g, base, 0), [0, 1])
                self.assertEqual(sg_power(p, q, g, base, 1), [0, base])

    def test_power_q_less_1_is_the_inverse(self):
        for p, q, g in GOOD_GROUPS:
            for base in some_elements(p, q, g):
                first, power = sg_power(p, q, g, base, q - 1)
                self.assertEqual((first, power * base % p), (0, 1))

    def test_base_1(self):
        for p, q, g in GOOD_GROUPS:
            for x in some_numbers(q):
                self.assertEqual(sg_power(p, q, g, 1, x), [0, 1])

    def test_group_that_is_not_good(self):
        for p, q, g in NOT_GOOD_GROUPS:
            for base in (0, 1, 2, p, TOP):
                for x in (0, 1, q, TOP):
                    self.assertEqual(sg_power(p, q, g, base, x), [-3], (p, q, g, base, x))

    def test_base_is_0(self):
        for p, q, g in GOOD_GROUPS:
            self.assertEqual(sg_power(p, q, g, 0, 0), [-2])
            self.assertEqual(sg_power(p, q, g, 0, 1), [-2])

    def test_base_is_p_or_above(self):
        for p, q, g in GOOD_GROUPS:
            for base in (p, p + 1, p + g, TOP, TOP - TOP % p + 1 - p):
                self.assertEqual(sg_power(p, q, g, base, 1), [-2], (p, q, g, base))

    def test_power_q_of_base_is_not_1(self):
        for p, q, g, base in ((7, 3, 2, 3), (7, 3, 2, 6), (23, 11, 2, 5), (23, 11, 2, 22), (5, 2, 4, 2),
                              (SAFE_PRIME, (SAFE_PRIME - 1) // 2, 4, SAFE_PRIME - 1),
                              (9223372036854775783, 2, 9223372036854775782, 2),
                              (9223372019674906631, 2147483647, 7448493270224473671, 3)):
            self.assertNotEqual(pow(base, q, p), 1)
            for x in (0, 1, q - 1):
                self.assertEqual(sg_power(p, q, g, base, x), [-2], (p, q, g, base, x))

    def test_x_is_q_or_above(self):
        for p, q, g in GOOD_GROUPS:
            for x in (q, q + 1, 2 * q, p, TOP):
                for base in (1, g):
                    self.assertEqual(sg_power(p, q, g, base, x), [-2], (p, q, g, base, x))

    def test_both_do_not_fit(self):
        for p, q, g in GOOD_GROUPS:
            self.assertEqual(sg_power(p, q, g, 0, q), [-2])
            self.assertEqual(sg_power(p, q, g, TOP, TOP), [-2])

    def test_answer_is_a_list_of_whole_numbers(self):
        for handed_in, kinds in (((23, 11, 2, 2, 5), [int, int]), ((23, 11, 2, 1, 0), [int, int]),
                                 ((23, 11, 2, 0, 5), [int]), ((23, 11, 5, 2, 5), [int])):
            answer = sg_power(*handed_in)
            self.assertIs(type(answer), list)
            self.assertEqual([type(value) for value in answer], kinds)

    def test_comes_back_at_once(self):
        calls = [(p, q, g, g, q - 1) for p, q, g in LARGE_GROUPS]
        calls += [(p, q, g, TOP, TOP) for p, q, g in LARGE_GROUPS]
        calls += [(TOP, TOP, TOP, TOP, TOP), (18446744073709551557, 18446744073709551557, TOP, TOP, TOP)]
        for handed_in in calls:
            start = time.perf_counter()
            sg_power(*handed_in)
            self.assertLess(time.perf_counter() - start, 0.5, handed_in)


if __name__ == "__main__":
    unittest.main()
