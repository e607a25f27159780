"""The calls on a group p, q, g: each answers a list of whole numbers, a refusal as its number alone."""

NOT_GOOD = -3
NOT_FITTING = -2
NOT_FOUND = -5

# Where the three numbers stand in the list of what is shown.
BEGIN = 0
ASKED = 1
ANSWER = 2

PRIME_LIMIT = 9223372036854775808

# No composite number below 318665857834031151167461 passes for a prime with all of these twelve
# (Sorenson and Webster), so up to 2^64 the trial is exact. With the first eleven alone it is not:
# 3825123056546413051 passes them all.
WITNESSES = (2, 3, 5, 7, 11, 13, 17, 19, 23, 29, 31, 37)


def power_modulo(base, exponent, modulus):
    result = 1
    square = base % modulus
    while exponent > 0:
        if exponent % 2 == 1:
            result = result * square % modulus
        square = square * square % modulus
        exponent = exponent // 2
    return result


def inverse_modulo(value, prime):
    # By Fermat the power prime - 1 is 1, so the power before it undoes value.
    return power_modulo(value, prime - 2, prime)


def shows_composite(witness, n, odd, twos):
    """n - 1 is odd times 2 to the power twos; a prime n never lets a witness say True."""
    value = power_modulo(witness, odd, n)
    if value == 1 or value == n - 1:
        return False
    for step in range(twos - 1):
        value = value * value % n
        if value == n - 1:
            return False
    return True


def is_prime(n):
    if n < 2:
        return False
    # A witness must not be a multiple of n, and n must be odd: these are settled by division first.
    for witness in WITNESSES:
        if n % witness == 0:
            return n == witness
    odd = n - 1
    twos = 0
    while odd % 2 == 0:
        odd = odd // 2
        twos = twos + 1
    for witness in WITNESSES:
        if shows_composite(witness, n, odd, twos):
            return False
    return True


def is_element(p, q, value):
    return 1 <= value < p and power_modulo(value, q, p) == 1


def is_number(q, value):
    return 0 <= value < q


def is_good(p, q, g):
    if p >= PRIME_LIMIT or not is_prime(p):
        return False
    # q is known to be a prime, so not 0, before anything is divided by it.
    if not is_prime(q) or (p - 1) % q != 0:
        return False
    return g >= 2 and is_element(p, q, g)


def is_shown(p, q, shown):
    return is_element(p, q, shown[BEGIN]) and is_number(q, shown[ASKED]) and is_number(q, shown[ANSWER])


def holds(p, base, y, shown):
    expected = shown[BEGIN] * power_modulo(y, shown[ASKED], p) % p
    return power_modulo(base, shown[ANSWER], p) == expected


def sg_good(p, q, g):
    return [1] if is_good(p, q, g) else [0]


def sg_power(p, q, g, base, x):
    if not is_good(p, q, g):
        return [NOT_GOOD]
    if not is_element(p, q, base) or not is_number(q, x):
        return [NOT_FITTING]
    return [0, power_modulo(base, x, p)]


def sg_answer(p, q, g, r, x, asked):
    if not is_good(p, q, g):
        return [NOT_GOOD]
    if not is_number(q, r) or not is_number(q, x) or not is_number(q, asked):
        return [NOT_FITTING]
    return [0, (r + asked * x) % q]


def sg_check(p, q, g, y, shown):
    if not is_good(p, q, g):
        return [NOT_GOOD]
    if not is_element(p, q, y) or not is_shown(p, q, shown):
        return [NOT_FITTING]
    return [1] if holds(p, g, y, shown) else [0]


def sg_make(p, q, g, y, asked, answer):
    if not is_good(p, q, g):
        return [NOT_GOOD]
    if not is_element(p, q, y) or not is_number(q, asked) or not is_number(q, answer):
        return [NOT_FITTING]
    # The power q of y is 1, so its power q - asked undoes its power asked.
    return [0, power_modulo(g, answer, p) * power_modulo(y, q - asked, p) % p]


def sg_find(p, q, g, y, s, t):
    if not is_good(p, q, g):
        return [NOT_GOOD]
    if not is_element(p, q, y) or not is_shown(p, q, s) or not is_shown(p, q, t):
        return [NOT_FITTING]
    if s[BEGIN] != t[BEGIN] or s[ASKED] == t[ASKED]:
        return [NOT_FOUND]
    if not holds(p, g, y, s) or not holds(p, g, y, t):
        return [NOT_FOUND]
    # Both begin alike, so the answers are as far apart as x times what was asked.
    return [0, (s[ANSWER] - t[ANSWER]) * inverse_modulo(s[ASKED] - t[ASKED], q) % q]


def sg_same(p, q, g, h, y, z, s, t):
    if not is_good(p, q, g):
        return [NOT_GOOD]
    if not is_element(p, q, h) or not is_element(p, q, y) or not is_element(p, q, z):
        return [NOT_FITTING]
    if not is_shown(p, q, s) or not is_shown(p, q, t):
        return [NOT_FITTING]
    if s[ASKED] != t[ASKED] or s[ANSWER] != t[ANSWER]:
        return [NOT_FITTING]
    return [1] if holds(p, g, y, s) and holds(p, h, z, t) else [0]


def sg_either(p, q, g, y, z, asked, s, t):
    if not is_good(p, q, g):
        return [NOT_GOOD]
    if not is_element(p, q, y) or not is_element(p, q, z) or not is_number(q, asked):
        return [NOT_FITTING]
    if not is_shown(p, q, s) or not is_shown(p, q, t):
        return [NOT_FITTING]
    if (s[ASKED] + t[ASKED]) % q != asked:
        return [0]
    return [1] if holds(p, g, y, s) and holds(p, g, z, t) else [0]
