"""Promise 7, sg_either, and the refusals -3 and -2 ahead of it."""

import itertools
import unittest

from groups import (GOOD_GROUPS, NOT_GOOD_GROUPS, SLOWEST_GROUPS, TOP, CallCase, each_replaced, honest, not_elements,
                    not_numbers, right_and_wrong, some_elements, some_numbers)
from powershown.knowing import sg_answer, sg_either, sg_make, sg_power


def plainly_either(p, q, g, y, z, asked, s, t):
    holding = g ** s[2] % p == s[0] * y ** s[1] % p and g ** t[2] % p == t[0] * z ** t[1] % p
    together = s[1] + t[1]
    return [1] if holding and asked in (together, together - q) else [0]


def known_and_made(p, q, g, x, other, asked, chosen):
    """What is shown for the power x of g, which is known, and for other, with the question `chosen` chosen first."""
    made = [sg_make(p, q, g, other, chosen, q // 2)[1], chosen, q // 2]
    left = (asked - chosen) % q
    known = [sg_power(p, q, g, g, q // 3)[1], left, sg_answer(p, q, g, q // 3, x, left)[1]]
    return known, made


class Either(CallCase):
    def test_written_out(self):
        # 16 is the power 4 of 2, begun with 8, the power 3; for 13 the question 9 and the answer 6 were chosen first.
        self.answers(sg_either, (23, 11, 2, 16, 13, 3, [8, 5, 1], [6, 9, 6]), [1])
        self.answers(sg_either, (23, 11, 2, 13, 16, 3, [6, 9, 6], [8, 5, 1]), [1])
        self.answers(sg_either, (23, 11, 2, 16, 13, 7, [8, 5, 1], [2, 2, 4]), [1])
        self.answers(sg_either, (23, 11, 2, 16, 13, 4, [8, 5, 1], [6, 9, 6]), [0])
        self.answers(sg_either, (23, 11, 2, 16, 13, 3, [8, 5, 2], [6, 9, 6]), [0])
        self.answers(sg_either, (23, 11, 2, 16, 13, 3, [8, 5, 1], [6, 9, 7]), [0])
        self.answers(sg_either, (23, 11, 2, 13, 16, 3, [8, 5, 1], [6, 9, 6]), [0])
        self.answers(sg_either, (23, 11, 2, 16, 13, 14, [8, 5, 1], [6, 9, 6]), [-2])
        self.answers(sg_either, (23, 11, 2, 16, 5, 3, [8, 5, 1], [6, 9, 6]), [-2])
        self.answers(sg_either, (23, 11, 5, 16, 13, 14, [8, 5, 1], [6, 9, 6]), [-3])

    def test_all_that_fits_in_small_groups(self):
        for p, q, g in ((3, 2, 2), (5, 2, 4), (7, 3, 2), (7, 3, 4)):
            fitting = [value for value in range(1, p) if value ** q % p == 1]
            every = [list(shown) for shown in itertools.product(fitting, range(q), range(q))]
            for y, z, asked in itertools.product(fitting, fitting, range(q)):
                for s in every:
                    for t in every:
                        expected = plainly_either(p, q, g, y, z, asked, s, t)
                        self.answers(sg_either, (p, q, g, y, z, asked, s, t), expected)

    def test_honest_either_way_round(self):
        sums = {"below": 0, "above": 0}
        for p, q, g in GOOD_GROUPS:
            for x in some_numbers(q):
                y = pow(g, x, p)
                for z in some_elements(p, q, g):
                    for asked in (0, q // 2, q - 1):
                        for chosen in (0, q // 3, q - 1):
                            s, t = known_and_made(p, q, g, x, z, asked, chosen)
                            sums["below" if s[1] + t[1] < q else "above"] += 1
                            self.answers(sg_either, (p, q, g, y, z, asked, s, t), [1])
                            self.answers(sg_either, (p, q, g, z, y, asked, t, s), [1])
        self.assertTrue(all(sums.values()), sums)

    def test_asked_together_is_q_or_above(self):
        for p, q, g in GOOD_GROUPS:
            last = q - 1
            for one, other, asked in ((last, 1, 0), (1, last, 0), (last, last, q - 2), (0, last, last), (0, 0, 0)):
                s, t = honest(p, q, g, 1, 1, one), honest(p, q, g, q - 1, 0, other)
                y, z = g, pow(g, q - 1, p)
                self.answers(sg_either, (p, q, g, y, z, asked, s, t), [1])
                self.answers(sg_either, (p, q, g, y, z, (asked + 1) % q, s, t), [0])
                if one + other >= q:
                    self.answers(sg_either, (p, q, g, y, z, one + other, s, t), [-2])

    def test_two_together_are_not_asked(self):
        for p, q, g in GOOD_GROUPS:
            for one in some_numbers(q):
                for other in some_numbers(q):
                    s, t = honest(p, q, g, 1, 1, one), honest(p, q, g, 1, 0, other)
                    for asked in some_numbers(q):
                        expected = [1] if asked in (one + other, one + other - q) else [0]
                        self.answers(sg_either, (p, q, g, g, g, asked, s, t), expected)

    def test_one_does_not_hold(self):
        for p, q, g in GOOD_GROUPS:
            for x in (0, 1, q - 1):
                y = pow(g, x, p)
                for z in some_elements(p, q, g):
                    s, t = known_and_made(p, q, g, x, z, q - 1, q // 3)
                    self.answers(sg_either, (p, q, g, y, z, q - 1, s, t), [1])
                    for at, values in ((0, some_elements(p, q, g)), (2, some_numbers(q))):
                        for other in each_replaced(s, at, values):
                            self.answers(sg_either, (p, q, g, y, z, q - 1, other, t), [1] if other == s else [0])
                        for other in each_replaced(t, at, values):
                            self.answers(sg_either, (p, q, g, y, z, q - 1, s, other), [1] if other == t else [0])

    def test_y_or_z_is_another(self):
        for p, q, g in GOOD_GROUPS:
            # Neither is asked with 0, for then it would hold for every element: they are asked with 1 each.
            s, t = honest(p, q, g, 1, 1, 1), honest(p, q, g, q - 1, 0, 1)
            y, z = g, pow(g, q - 1, p)
            for other in some_elements(p, q, g):
                self.answers(sg_either, (p, q, g, other, z, 2 % q, s, t), [1] if other == y else [0])
                self.answers(sg_either, (p, q, g, y, other, 2 % q, s, t), [1] if other == z else [0])

    def test_neither_holds(self):
        for p, q, g in GOOD_GROUPS:
            self.answers(sg_either, (p, q, g, g, g, 0, [1, 0, 1], [1, 0, 1]), [0])
            self.answers(sg_either, (p, q, g, g, g, 1, [1, 0, 1], [1, 0, 1]), [0])

    def test_group_that_is_not_good(self):
        for p, q, g in NOT_GOOD_GROUPS:
            for value in (0, 1, 2, p, TOP):
                for s in ([1, 0, 0], [g, 0, 1], [0, 0, 0], [1, q, 0], [1, 0, q], [TOP, TOP, TOP]):
                    self.answers(sg_either, (p, q, g, value, 1, 0, s, [1, 0, 0]), [-3])
                    self.answers(sg_either, (p, q, g, 1, value, 0, [1, 0, 0], s), [-3])
                    self.answers(sg_either, (p, q, g, 1, 1, value, s, s), [-3])

    def test_y_or_z_is_not_an_element(self):
        for p, q, g in GOOD_GROUPS:
            for wrong in not_elements(p, q, g):
                # Asked with 0 both would hold whatever y and z are.
                for s, t, asked in (([1, 0, 0], [1, 0, 0], 0), ([g, 0, 1], [1, 0, 0], 1), ([g, 1, 0], [1, 1, 1], 0)):
                    for right in (1, g):
                        self.answers(sg_either, (p, q, g, wrong, right, asked, s, t), [-2])
                        self.answers(sg_either, (p, q, g, right, wrong, asked, s, t), [-2])

    def test_asked_is_not_a_number(self):
        for p, q, g in GOOD_GROUPS:
            for one in some_numbers(q):
                for other in some_numbers(q):
                    s, t = honest(p, q, g, 1, 1, one), honest(p, q, g, 1, 0, other)
                    alike = (one + other) % q
                    self.answers(sg_either, (p, q, g, g, g, alike, s, t), [1])
                    for wrong in not_numbers(p, q) + [alike + q, alike + 2 * q]:
                        self.answers(sg_either, (p, q, g, g, g, wrong, s, t), [-2])

    def test_one_of_shown_is_not_as_told(self):
        for p, q, g in GOOD_GROUPS:
            for y, right, wrong in right_and_wrong(p, q, g):
                for asked in sorted({(right[1] + wrong[1]) % q, 2 * wrong[1] % q, 0}):
                    self.answers(sg_either, (p, q, g, y, y, asked, wrong, right), [-2])
                    self.answers(sg_either, (p, q, g, y, y, asked, right, wrong), [-2])
                    self.answers(sg_either, (p, q, g, y, y, asked, wrong, wrong), [-2])

    def test_nothing_is_as_told(self):
        for p, q, g in GOOD_GROUPS:
            self.answers(sg_either, (p, q, g, 0, 0, q, [0, q, q], [p, q, q]), [-2])
            self.answers(sg_either, (p, q, g, TOP, TOP, TOP, [TOP, TOP, TOP], [TOP, TOP, TOP]), [-2])

    def test_one_list_is_handed_in_as_both(self):
        for p, q, g in GOOD_GROUPS:
            shown = honest(p, q, g, 1, 1, q - 1)
            before = list(shown)
            self.answers(sg_either, (p, q, g, g, g, q - 2, shown, shown), [1])
            self.answers(sg_either, (p, q, g, g, g, q - 1, shown, shown), [0])
            self.answers(sg_either, (p, q, g, g, 1, q - 2, shown, shown), [0])
            self.answers(sg_either, (p, q, g, 0, g, q - 2, shown, shown), [-2])
            self.answers(sg_either, (p, q, 1, g, g, q - 2, shown, shown), [-3])
            self.assertEqual(shown, before)

    def test_comes_back_at_once(self):
        for p, q, g in SLOWEST_GROUPS:
            shown = honest(p, q, g, q - 1, q - 1, q - 1)
            y = pow(g, q - 1, p)
            self.comes_back_at_once(sg_either, (p, q, g, y, y, q - 2, shown, list(shown)))
            self.comes_back_at_once(sg_either, (p, q, g, y, y, q - 1, [TOP, TOP, TOP], [TOP, TOP, TOP]))
            self.comes_back_at_once(sg_either, (p, q, g, TOP, TOP, TOP, [TOP, TOP, TOP], [TOP, TOP, TOP]))


if __name__ == "__main__":
    unittest.main()
