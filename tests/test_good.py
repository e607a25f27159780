"""Promise 1: sg_good."""

import time
import unittest

from groups import GOOD_GROUPS, PASSING_COMPOSITES, SAFE_PRIME, TOP
from powershown.knowing import sg_good


def plainly_prime(n):
    return n > 1 and all(n % d != 0 for d in range(2, n))


def plainly_good(p, q, g):
    return (plainly_prime(p) and plainly_prime(q) and (p - 1) % q == 0
            and 2 <= g <= p - 1 and g ** q % p == 1)


def primes_below(limit):
    marks = [False, False] + [True] * (limit - 2)
    for d in range(2, limit):
        if marks[d]:
            for multiple in range(d * d, limit, d):
                marks[multiple] = False
    return marks


def first_root(n, exponent):
    """The first power `exponent` modulo n that isn't 1."""
    base = 2
    while pow(base, exponent, n) == 1:
        base += 1
    return pow(base, exponent, n)


class Good(unittest.TestCase):
    def refused(self, p, q, g):
        self.assertEqual(sg_good(p, q, g), [0], (p, q, g))

    def refused_for_p_alone(self, p, q, g):
        """All that can be asked of the group holds, but that p is a prime below 2^63."""
        self.assertEqual((p - 1) % q, 0)
        self.assertTrue(2 <= g <= p - 1)
        self.assertEqual(pow(g, q, p), 1)
        self.refused(p, q, g)

    def test_good_groups(self):
        for p, q, g in GOOD_GROUPS:
            self.assertEqual(sg_good(p, q, g), [1], (p, q, g))

    def test_every_small_group(self):
        for p in range(32):
            for q in range(32):
                for g in range(34):
                    expected = [1] if plainly_good(p, q, g) else [0]
                    self.assertEqual(sg_good(p, q, g), expected, (p, q, g))

    def test_p_is_prime_up_to_20000(self):
        # With q = 2 and g = p - 1 an odd p decides alone whether the group is good.
        marks = primes_below(20000)
        for p in range(3, 20000, 2):
            self.assertEqual(sg_good(p, 2, p - 1), [1] if marks[p] else [0], p)

    def test_q_is_prime_up_to_2000(self):
        marks = primes_below(500000)
        for q in range(2, 2000):
            k = 1
            while not marks[k * q + 1]:
                k += 1
            p = k * q + 1
            g = first_root(p, k)
            self.assertEqual(sg_good(p, q, g), [1] if marks[q] else [0], (p, q, g))

    def test_p_passes_for_a_prime(self):
        for p in PASSING_COMPOSITES:
            self.refused_for_p_alone(p, 2, p - 1)

    def test_p_is_a_carmichael_number(self):
        for p in (561, 1105, 1729, 41041, 825265, 321197185, 9746347772161, 1436697831295441):
            self.refused_for_p_alone(p, 2, p - 1)

    def test_p_is_a_product_of_two_large_primes(self):
        for a, b in ((3037000493, 3037000453), (2147483647, 4294967291), (2147483647, 2147483629)):
            self.refused_for_p_alone(a * b, 2, a * b - 1)

    def test_p_is_a_product_with_a_large_q(self):
        q = 65537
        a = 2146990529 - (2146990529 - 1) % q
        factors = []
        while len(factors) < 2:
            if all(a % d != 0 for d in range(2, 46342)):
                factors.append(a)
            a -= q
        a, b = factors
        g = first_root(a * b, (a - 1) * (b - 1) // (q * q))
        self.refused_for_p_alone(a * b, q, g)

    def test_p_is_a_square_or_cube_of_a_prime(self):
        for a in (41, 101, 65537, 2147483647, 3037000493):
            self.refused_for_p_alone(a * a, 2, a * a - 1)
        for a in (41, 101, 65537, 2097143):
            self.refused_for_p_alone(a ** 3, 2, a ** 3 - 1)

    def test_p_is_a_square_with_an_odd_q(self):
        for a, q in ((2147483647, 331), (3037000493, 759250123), (43, 7)):
            self.assertEqual((a - 1) % q, 0)
            self.refused_for_p_alone(a * a, q, first_root(a * a, a * (a - 1) // q))

    def test_p_is_a_prime_of_2_63_or_above(self):
        for p in (9223372036854775837, 18446744073709551557):
            self.refused_for_p_alone(p, 2, p - 1)
        self.refused_for_p_alone(9223372036854778487, 4611686018427389243, 4)

    def test_p_is_2_63_or_beside_it(self):
        for p in (2 ** 63 - 1, 2 ** 63, 2 ** 63 + 1):
            self.refused(p, 2, p - 1)

    def test_p_is_2(self):
        for q in range(5):
            for g in range(5):
                self.refused(2, q, g)

    def test_q_is_not_a_prime(self):
        # q divides p - 1 and g's power q is 1: q is the one thing wrong.
        for p, q, g in ((13, 4, 5), (13, 6, 4), (13, 12, 2), (31, 15, 9),
                        (SAFE_PRIME, SAFE_PRIME - 1, 2), (SAFE_PRIME, SAFE_PRIME - 1, 4)):
            self.assertEqual(((p - 1) % q, pow(g, q, p)), (0, 1))
            self.refused(p, q, g)

    def test_q_passes_for_a_prime(self):
        for p, q, g in ((36847, 2047, 4215),
                        (5494613, 1373653, 16),
                        (253260011, 25326001, 1024),
                        (231482286073, 3215031751, 8293954015),
                        (206621078279713, 2152302898747, 100289883361177),
                        (76444492528427, 3474749660383, 4194304),
                        (6147901291109779, 341550071728321, 262144)):
            self.assertEqual(((p - 1) % q, pow(g, q, p)), (0, 1))
            self.refused(p, q, g)

    def test_q_is_a_prime_that_does_not_divide(self):
        for q in (3, 5, 7, 13, 23, 29, 9223372036854775783, 18446744073709551557):
            for g in range(2, 23):
                self.refused(23, q, g)
        for q in (3, 2147483647, SAFE_PRIME, 18446744073709551557):
            self.refused(SAFE_PRIME, q, 4)

    def test_g_is_below_2(self):
        for p, q, g in GOOD_GROUPS:
            self.refused(p, q, 0)
            self.refused(p, q, 1)

    def test_g_is_p_or_above(self):
        for p, q, g in GOOD_GROUPS:
            for other in (p, p + 1, p + g, TOP):
                self.refused(p, q, other)

    def test_power_q_of_g_is_not_1(self):
        for p, q, g in ((7, 3, 3), (7, 3, 6), (23, 11, 5), (23, 11, 22),
                        (SAFE_PRIME, (SAFE_PRIME - 1) // 2, SAFE_PRIME - 1),
                        (SAFE_PRIME, (SAFE_PRIME - 1) // 2, SAFE_PRIME - 4),
                        (9223372036854775783, 2, 2),
                        (9223372019674906631, 2147483647, 2)):
            self.assertNotEqual(pow(g, q, p), 1)
            self.refused(p, q, g)

    def test_ends_of_what_may_be_handed_in(self):
        ends = (0, 1, TOP)
        for p, q, g in GOOD_GROUPS:
            for end in ends:
                self.refused(end, q, g)
                self.refused(p, end, g)
                self.refused(p, q, end)
        for p in ends:
            for q in ends:
                for g in ends:
                    self.refused(p, q, g)

    def test_answer_is_a_list_of_one_whole_number(self):
        for group in ((23, 11, 2), (23, 11, 5), (0, 0, 0)):
            answer = sg_good(*group)
            self.assertIs(type(answer), list)
            self.assertEqual([type(value) for value in answer], [int])

    def test_comes_back_at_once(self):
        for group in GOOD_GROUPS + [(TOP, TOP, TOP), (2 ** 63 - 25, 2 ** 64 - 59, TOP), (SAFE_PRIME, TOP, TOP),
                                    (18446744073709551557, 18446744073709551557, TOP)]:
            start = time.perf_counter()
            sg_good(*group)
            self.assertLess(time.perf_counter() - start, 0.5, group)


if __name__ == "__main__":
    unittest.main()
