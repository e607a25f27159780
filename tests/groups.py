"""Groups that the tests share, each as (p, q, g)."""

TOP = 2 ** 64 - 1

LARGEST_PRIME_BELOW_2_63 = 9223372036854775783
SAFE_PRIME = 9223372036854771239
MERSENNE = 2147483647

SMALL_GROUPS = [
    (3, 2, 2),
    (5, 2, 4),
    (7, 3, 2),
    (11, 5, 3),
    (23, 11, 2),
    (31, 5, 2),
    (43, 7, 4),
    (2039, 1019, 4),
]

LARGE_GROUPS = [
    (LARGEST_PRIME_BELOW_2_63, 2, LARGEST_PRIME_BELOW_2_63 - 1),
    (SAFE_PRIME, (SAFE_PRIME - 1) // 2, 4),
    (SAFE_PRIME, (SAFE_PRIME - 1) // 2, SAFE_PRIME - 11),
    (9223372019674906631, MERSENNE, 7448493270224473671),
    (9223372019674906631, MERSENNE, 1718076525402345551),
]

GOOD_GROUPS = SMALL_GROUPS + LARGE_GROUPS

# Composite numbers that pass for a prime with the first few primes as witnesses; the last passes with
# every prime up to 31.
PASSING_COMPOSITES = [
    2047,
    1373653,
    25326001,
    3215031751,
    2152302898747,
    3474749660383,
    341550071728321,
    3825123056546413051,
]

NOT_GOOD_GROUPS = [
    (15, 2, 14),
    (13, 4, 5),
    (23, 7, 2),
    (23, 11, 1),
    (23, 11, 0),
    (23, 11, 25),
    (23, 11, 5),
    (0, 0, 0),
    (1, 1, 1),
    (2, 2, 2),
    (23, 0, 2),
    (23, 1, 2),
    (0, 11, 2),
    (1, 11, 2),
    (9223372036854775837, 2, 9223372036854775836),
    (3825123056546413051, 2, 3825123056546413050),
    (TOP, TOP, TOP),
    (TOP, 2, TOP - 1),
]
