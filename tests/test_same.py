"""Promise 6, sg_same, and the refusals -3 and -2 ahead of it."""

import itertools
import unittest

from groups import (GOOD_GROUPS, NOT_GOOD_GROUPS, SLOWEST_GROUPS, TOP, CallCase, each_replaced, honest, not_elements,
                    not_numbers, right_and_wrong, some_elements, some_numbers)
from powershown.knowing import sg_answer, sg_check, sg_make, sg_power, sg_same


def plainly_same(p, g, h, y, z, s, t):
    if s[1] != t[1] or s[2] != t[2]:
        return [-2]
    s_holds = g ** s[2] % p == s[0] * y ** s[1] % p
    t_holds = h ** t[2] % p == t[0] * z ** t[1] % p
    return [1] if s_holds and t_holds else [0]


def made(p, base, y, asked, answer):
    """What is shown with the one begin with which it holds for y to the base."""
    return [pow(base, answer, p) * pow(y, -asked, p) % p, asked, answer]


class Same(CallCase):
    def test_written_out(self):
        # 16 is the power 4 of 2, and 12 of 3; 8 and 4 are the powers 3.
        self.answers(sg_same, (23, 11, 2, 3, 16, 12, [8, 5, 1], [4, 5, 1]), [1])
        self.answers(sg_same, (23, 11, 3, 2, 12, 16, [4, 5, 1], [8, 5, 1]), [1])
        self.answers(sg_same, (23, 11, 2, 3, 16, 13, [8, 5, 1], [4, 5, 1]), [0])
        self.answers(sg_same, (23, 11, 2, 3, 8, 12, [8, 5, 1], [4, 5, 1]), [0])
        self.answers(sg_same, (23, 11, 2, 4, 16, 12, [8, 5, 1], [4, 5, 1]), [0])
        self.answers(sg_same, (23, 11, 2, 3, 16, 12, [4, 5, 1], [8, 5, 1]), [0])
        self.answers(sg_same, (23, 11, 2, 3, 16, 12, [8, 5, 1], [4, 5, 2]), [-2])
        self.answers(sg_same, (23, 11, 2, 3, 16, 12, [8, 5, 1], [4, 4, 1]), [-2])
        self.answers(sg_same, (23, 11, 2, 5, 16, 12, [8, 5, 1], [4, 5, 1]), [-2])
        self.answers(sg_same, (23, 11, 5, 3, 16, 12, [8, 5, 1], [4, 5, 2]), [-3])

    def test_all_that_fits_in_small_groups(self):
        for p, q, g in ((3, 2, 2), (5, 2, 4), (7, 3, 2), (7, 3, 4)):
            fitting = [value for value in range(1, p) if value ** q % p == 1]
            every = [list(shown) for shown in itertools.product(fitting, range(q), range(q))]
            for h, y, z in itertools.product(fitting, repeat=3):
                for s in every:
                    for t in every:
                        self.answers(sg_same, (p, q, g, h, y, z, s, t), plainly_same(p, g, h, y, z, s, t))

    def test_honest(self):
        for p, q, g in GOOD_GROUPS:
            for h in some_elements(p, q, g):
                for x in some_numbers(q):
                    y, z = sg_power(p, q, g, g, x)[1], sg_power(p, q, g, h, x)[1]
                    for r in (0, q // 3, q - 1):
                        for asked in (0, q // 2, q - 1):
                            answer = sg_answer(p, q, g, r, x, asked)[1]
                            s = [sg_power(p, q, g, g, r)[1], asked, answer]
                            t = [sg_power(p, q, g, h, r)[1], asked, answer]
                            self.answers(sg_same, (p, q, g, h, y, z, s, t), [1])

    def test_y_and_z_are_different_powers(self):
        for p, q, g in GOOD_GROUPS:
            for h in some_elements(p, q, g)[1:]:
                for x in some_numbers(q):
                    for other in some_numbers(q):
                        y, z = pow(g, x, p), pow(h, other, p)
                        s, t = honest(p, q, g, x, 1, q - 1), honest(p, q, h, x, 1, q - 1)
                        self.answers(sg_same, (p, q, g, h, y, z, s, t), [1] if x == other else [0])
                        s, t = honest(p, q, g, other, 1, q - 1), honest(p, q, h, other, 1, q - 1)
                        self.answers(sg_same, (p, q, g, h, y, z, s, t), [1] if x == other else [0])

    def test_one_does_not_hold(self):
        for p, q, g in GOOD_GROUPS:
            for h in some_elements(p, q, g):
                for x in (0, 1, q - 1):
                    y, z = pow(g, x, p), pow(h, x, p)
                    s, t = honest(p, q, g, x, 1, q - 1), honest(p, q, h, x, 1, q - 1)
                    for other in each_replaced(s, 0, some_elements(p, q, g)):
                        self.assertEqual(sg_check(p, q, g, y, other), [1] if other == s else [0])
                        self.answers(sg_same, (p, q, g, h, y, z, other, t), [1] if other == s else [0])
                    for other in each_replaced(t, 0, some_elements(p, q, g)):
                        self.answers(sg_same, (p, q, g, h, y, z, s, other), [1] if other == t else [0])

    def test_neither_holds(self):
        for p, q, g in GOOD_GROUPS:
            s = honest(p, q, g, 1, 1, 1)
            s[2] = (s[2] + 1) % q
            self.answers(sg_same, (p, q, g, g, g, g, s, list(s)), [0])

    def test_t_is_to_the_base_h(self):
        for p, q, g in GOOD_GROUPS:
            for h in some_elements(p, q, g):
                # To the base g both would hold; to the base h only where it is g.
                s = honest(p, q, g, 1, 0, 1)
                self.answers(sg_same, (p, q, g, h, g, g, s, list(s)), [1] if h == g else [0])

    def test_asked_or_answer_differs(self):
        for p, q, g in GOOD_GROUPS:
            for h in some_elements(p, q, g):
                for x in (0, 1, q - 1):
                    y, z = pow(g, x, p), pow(h, x, p)
                    for asked in some_numbers(q):
                        # Each holds by itself, whatever the other is.
                        s = made(p, g, y, asked, 1)
                        self.assertEqual(sg_make(p, q, g, y, asked, 1), [0, s[0]])
                        t = made(p, h, z, asked, 1)
                        self.answers(sg_same, (p, q, g, h, y, z, s, t), [1])
                        t = made(p, h, z, (asked + 1) % q, 1)
                        self.answers(sg_same, (p, q, g, h, y, z, s, t), [-2])
                        t = made(p, h, z, asked, 0)
                        self.answers(sg_same, (p, q, g, h, y, z, s, t), [-2])
                        t = made(p, h, z, (asked + 1) % q, 0)
                        self.answers(sg_same, (p, q, g, h, y, z, s, t), [-2])

    def test_differing_and_not_holding(self):
        for p, q, g in GOOD_GROUPS:
            self.answers(sg_same, (p, q, g, g, g, g, [1, 0, 1], [1, 1, 1]), [-2])
            self.answers(sg_same, (p, q, g, g, g, g, [1, 0, 1], [1, 0, 0]), [-2])

    def test_group_that_is_not_good(self):
        for p, q, g in NOT_GOOD_GROUPS:
            for value in (0, 1, 2, p, TOP):
                for s in ([1, 0, 0], [g, 0, 1], [0, 0, 0], [1, q, 0], [1, 0, q], [TOP, TOP, TOP]):
                    self.answers(sg_same, (p, q, g, value, 1, 1, s, [1, 1, 0]), [-3])
                    self.answers(sg_same, (p, q, g, 1, value, 1, [1, 1, 0], s), [-3])
                    self.answers(sg_same, (p, q, g, 1, 1, value, s, s), [-3])

    def test_h_or_y_or_z_is_not_an_element(self):
        for p, q, g in GOOD_GROUPS:
            for wrong in not_elements(p, q, g):
                # With asked and answer 0 both would hold whatever h, y and z are.
                for shown in ([1, 0, 0], [1, 1, 1], [g, 0, 0]):
                    for right in (1, g):
                        self.answers(sg_same, (p, q, g, wrong, right, right, shown, list(shown)), [-2])
                        self.answers(sg_same, (p, q, g, right, wrong, right, shown, list(shown)), [-2])
                        self.answers(sg_same, (p, q, g, right, right, wrong, shown, list(shown)), [-2])

    def test_one_of_shown_is_not_as_told(self):
        for p, q, g in GOOD_GROUPS:
            for y, right, wrong in right_and_wrong(p, q, g):
                self.answers(sg_same, (p, q, g, g, y, y, wrong, right), [-2])
                self.answers(sg_same, (p, q, g, g, y, y, right, wrong), [-2])

    def test_both_shown_are_alike_but_not_as_told(self):
        for p, q, g in GOOD_GROUPS:
            for y, right, wrong in right_and_wrong(p, q, g):
                self.answers(sg_same, (p, q, g, g, y, y, wrong, list(wrong)), [-2])
                self.answers(sg_same, (p, q, g, g, y, y, wrong, wrong), [-2])
            for wrong in not_numbers(p, q):
                self.answers(sg_same, (p, q, g, g, g, g, [1, wrong, wrong], [1, wrong, wrong]), [-2])

    def test_nothing_is_as_told(self):
        for p, q, g in GOOD_GROUPS:
            self.answers(sg_same, (p, q, g, 0, 0, 0, [0, q, q], [p, q, q + 1]), [-2])
            self.answers(sg_same, (p, q, g, TOP, TOP, TOP, [TOP, TOP, TOP], [TOP, TOP, TOP]), [-2])

    def test_one_list_is_handed_in_as_both(self):
        for p, q, g in GOOD_GROUPS:
            shown = honest(p, q, g, 1, 1, q - 1)
            before = list(shown)
            self.answers(sg_same, (p, q, g, g, g, g, shown, shown), [1])
            self.answers(sg_same, (p, q, g, g, g, 1, shown, shown), [0])
            self.answers(sg_same, (p, q, g, g, g, 0, shown, shown), [-2])
            self.answers(sg_same, (p, q, 1, g, g, g, shown, shown), [-3])
            self.assertEqual(shown, before)

    def test_comes_back_at_once(self):
        for p, q, g in SLOWEST_GROUPS:
            shown = honest(p, q, g, q - 1, q - 1, q - 1)
            y = pow(g, q - 1, p)
            self.comes_back_at_once(sg_same, (p, q, g, g, y, y, shown, list(shown)))
            self.comes_back_at_once(sg_same, (p, q, g, g, y, y, [TOP, TOP, TOP], [TOP, TOP, TOP]))
            self.comes_back_at_once(sg_same, (p, q, g, TOP, TOP, TOP, [TOP, TOP, TOP], [TOP, TOP, TOP]))


if __name__ == "__main__":
    unittest.main()
