"""What the tests share: groups, each as (p, q, g), values that fit them or don't, and how a call is tried."""

import copy
import time
import unittest

TOP = 2 ** 64 - 1

LARGEST_PRIME_BELOW_2_63 = 9223372036854775783
SAFE_PRIME = 9223372036854771239
MERSENNE = 2147483647

SMALL_GROUPS = [
    (3, 2, 2),
    (5, 2, 4),
    (7, 3, 2),
    (11, 5, 3),
    (23, 11, 2),
    (31, 5, 2),
    (43, 7, 4),
    (2039, 1019, 4),
]

LARGE_GROUPS = [
    (LARGEST_PRIME_BELOW_2_63, 2, LARGEST_PRIME_BELOW_2_63 - 1),
    (SAFE_PRIME, (SAFE_PRIME - 1) // 2, 4),
    (SAFE_PRIME, (SAFE_PRIME - 1) // 2, SAFE_PRIME - 11),
    (9223372019674906631, MERSENNE, 7448493270224473671),
    (9223372019674906631, MERSENNE, 1718076525402345551),
]

GOOD_GROUPS = SMALL_GROUPS + LARGE_GROUPS

# Composite numbers that pass for a prime with the first few primes as witnesses; the last passes with
# every prime up to 31.
PASSING_COMPOSITES = [
    2047,
    1373653,
    25326001,
    3215031751,
    2152302898747,
    3474749660383,
    341550071728321,
    3825123056546413051,
]

NOT_GOOD_GROUPS = [
    (15, 2, 14),
    (13, 4, 5),
    (23, 7, 2),
    (23, 11, 1),
    (23, 11, 0),
    (23, 11, 25),
    (23, 11, 5),
    (0, 0, 0),
    (1, 1, 1),
    (2, 2, 2),
    (23, 0, 2),
    (23, 1, 2),
    (0, 11, 2),
    (1, 11, 2),
    (9223372036854775837, 2, 9223372036854775836),
    (3825123056546413051, 2, 3825123056546413050),
    (TOP, TOP, TOP),
    (TOP, 2, TOP - 1),
]

# With these a call has the most to do, or is handed the largest numbers.
SLOWEST_GROUPS = LARGE_GROUPS + [
    (TOP, TOP, TOP),
    (18446744073709551557, 18446744073709551557, TOP),
]


def some_elements(p, q, g):
    return sorted({1, g, pow(g, q - 1, p), pow(g, q // 2, p), pow(g, 12345 % q, p)})


def some_numbers(q):
    return sorted({0, 1, q // 2, q // 3, 2 % q, q - 1})


def not_elements(p, q, g):
    """0, some of p or above, and the first and last below p of which the power q is not 1, if there are any."""
    found = [0, p, p + 1, p + g, TOP]
    for values in (range(2, p), range(p - 1, 1, -1)):
        found += [value for value in values[:100] if pow(value, q, p) != 1][:1]
    return found


def not_numbers(p, q):
    return [q, q + 1, 2 * q, p, TOP]


def honest(p, q, g, x, r, asked):
    """What is shown by somebody who knows that y is the power x of g, and begins with the power r."""
    return [pow(g, r, p), asked, (r + asked * x) % q]


def each_replaced(shown, at, values):
    return [shown[:at] + [value] + shown[at + 1:] for value in values]


def not_as_told(p, q, g, shown):
    """What is shown, with one of its three numbers replaced by one that isn't as told, or that is alike by p or q."""
    return (each_replaced(shown, 0, not_elements(p, q, g) + [shown[0] + p])
            + each_replaced(shown, 1, not_numbers(p, q) + [shown[1] + q])
            + each_replaced(shown, 2, not_numbers(p, q) + [shown[2] + q]))


def right_and_wrong(p, q, g):
    """Threes: y, what somebody honest shows for it, and the same with one number that isn't as told."""
    found = []
    for x, r, asked in ((1, 1, 1), (0, 0, 0), (q - 1, q // 2, q - 1)):
        right = honest(p, q, g, x, r, asked)
        found += [(pow(g, x, p), right, wrong) for wrong in not_as_told(p, q, g, right)]
    return found


class CallCase(unittest.TestCase):
    def answers(self, call, handed_in, expected):
        before = copy.deepcopy(handed_in)
        answer = call(*handed_in)
        self.assertEqual(answer, expected, before)
        self.assertIs(type(answer), list)
        self.assertTrue(all(type(value) is int for value in answer), before)
        self.assertEqual(handed_in, before)

    def comes_back_at_once(self, call, handed_in):
        start = time.perf_counter()
        call(*handed_in)
        self.assertLess(time.perf_counter() - start, 0.5, handed_in)
