"""Promise 3, sg_check, and the refusals -3 and -2 ahead of it."""

import unittest

from groups import (GOOD_GROUPS, NOT_GOOD_GROUPS, SLOWEST_GROUPS, TOP, CallCase, each_replaced, honest, not_elements,
                    right_and_wrong, some_elements, some_numbers)
from powershown.knowing import sg_answer, sg_check, sg_power


class Check(CallCase):
    def test_written_out(self):
        # 16 is the power 4 of 2, 8 the power 3; asked with 5, the answer is 3 + 5 * 4 modulo 11.
        self.answers(sg_check, (23, 11, 2, 16, [8, 5, 1]), [1])
        self.answers(sg_check, (23, 11, 2, 16, [8, 5, 2]), [0])
        self.answers(sg_check, (23, 11, 2, 16, [8, 4, 1]), [0])
        self.answers(sg_check, (23, 11, 2, 16, [4, 5, 1]), [0])
        self.answers(sg_check, (23, 11, 2, 8, [8, 5, 1]), [0])
        self.answers(sg_check, (23, 11, 3, 16, [8, 5, 1]), [0])
        self.answers(sg_check, (23, 11, 5, 16, [8, 5, 1]), [-3])
        self.answers(sg_check, (23, 11, 2, 5, [8, 5, 1]), [-2])
        self.answers(sg_check, (23, 11, 2, 16, [8, 16, 1]), [-2])
        self.answers(sg_check, (23, 11, 2, 16, [8, 5, 12]), [-2])

    def test_every_input_of_small_groups(self):
        for p, q, g in ((3, 2, 2), (5, 2, 4), (7, 3, 2), (11, 5, 3)):
            fitting = [value for value in range(1, p) if value ** q % p == 1]
            for y in range(p + 2):
                for begin in range(p + 2):
                    for asked in range(q + 2):
                        for answer in range(q + 2):
                            expected = [-2]
                            if y in fitting and begin in fitting and asked < q and answer < q:
                                expected = [1] if g ** answer % p == begin * y ** asked % p else [0]
                            self.answers(sg_check, (p, q, g, y, [begin, asked, answer]), expected)

    def test_honest(self):
        for p, q, g in GOOD_GROUPS:
            for x in some_numbers(q):
                for r in some_numbers(q):
                    for asked in some_numbers(q):
                        y = sg_power(p, q, g, g, x)[1]
                        begin = sg_power(p, q, g, g, r)[1]
                        answer = sg_answer(p, q, g, r, x, asked)[1]
                        self.assertEqual([begin, asked, answer], honest(p, q, g, x, r, asked))
                        self.answers(sg_check, (p, q, g, y, [begin, asked, answer]), [1])

    def test_one_is_changed(self):
        for p, q, g in GOOD_GROUPS:
            # Of y 1 every power is 1, so there what is asked would not matter: x is not 0 here.
            for x in some_numbers(q)[1:]:
                for asked in some_numbers(q):
                    y = pow(g, x, p)
                    shown = honest(p, q, g, x, q // 3, asked)
                    changed = (each_replaced(shown, 0, some_elements(p, q, g))
                               + each_replaced(shown, 1, some_numbers(q))
                               + each_replaced(shown, 2, some_numbers(q)))
                    for other in changed:
                        self.answers(sg_check, (p, q, g, y, other), [1] if other == shown else [0])

    def test_y_is_changed(self):
        for p, q, g in GOOD_GROUPS:
            for x in some_numbers(q):
                shown = honest(p, q, g, x, 1, q - 1)
                for y in some_elements(p, q, g):
                    self.answers(sg_check, (p, q, g, y, shown), [1] if y == pow(g, x, p) else [0])

    def test_y_1_is_not_moved_by_what_is_asked(self):
        for p, q, g in GOOD_GROUPS:
            for asked in some_numbers(q):
                self.answers(sg_check, (p, q, g, 1, [g, asked, 1]), [1])
                self.answers(sg_check, (p, q, g, 1, [g, asked, 0]), [0])

    def test_group_that_is_not_good(self):
        for p, q, g in NOT_GOOD_GROUPS:
            for y in (0, 1, 2, p, TOP):
                for shown in ([1, 0, 0], [g, 0, 1], [0, 0, 0], [p, 0, 0], [1, q, 0], [1, 0, q], [TOP, TOP, TOP]):
                    self.answers(sg_check, (p, q, g, y, shown), [-3])

    def test_y_is_not_an_element(self):
        for p, q, g in GOOD_GROUPS:
            for y in not_elements(p, q, g):
                # Asked with 0 it would hold whatever y is.
                for shown in ([g, 0, 1], [1, 0, 0], [1, q - 1, 1], [1, 0, 1]):
                    self.answers(sg_check, (p, q, g, y, shown), [-2])

    def test_one_of_shown_is_not_as_told(self):
        for p, q, g in GOOD_GROUPS:
            for y, right, wrong in right_and_wrong(p, q, g):
                self.answers(sg_check, (p, q, g, y, right), [1])
                self.answers(sg_check, (p, q, g, y, wrong), [-2])

    def test_equation_without_elements(self):
        # -4 is no element of 2's powers modulo 23, nor is -8; still the equation would be met.
        self.assertEqual(pow(2, 5, 23), 19 * 15 % 23)
        self.answers(sg_check, (23, 11, 2, 19, [15, 1, 5]), [-2])
        self.answers(sg_check, (23, 11, 2, 4, [8, 1, 5]), [1])

    def test_nothing_is_as_told(self):
        for p, q, g in GOOD_GROUPS:
            self.answers(sg_check, (p, q, g, 0, [0, q, q]), [-2])
            self.answers(sg_check, (p, q, g, TOP, [TOP, TOP, TOP]), [-2])

    def test_list_is_left_as_it_is(self):
        for shown in ([8, 5, 1], [8, 5, 2], [0, 5, 1], [8, 16, 1], [TOP, TOP, TOP]):
            for p, q, g, y in ((23, 11, 2, 16), (23, 11, 2, 5), (23, 11, 5, 16)):
                handed_in = list(shown)
                sg_check(p, q, g, y, handed_in)
                self.assertEqual(handed_in, shown)
                self.assertIsNot(sg_check(p, q, g, y, handed_in), handed_in)

    def test_comes_back_at_once(self):
        for p, q, g in SLOWEST_GROUPS:
            self.comes_back_at_once(sg_check, (p, q, g, g, [g, q - 1, q - 1]))
            self.comes_back_at_once(sg_check, (p, q, g, g, [TOP, TOP, TOP]))
            self.comes_back_at_once(sg_check, (p, q, g, TOP, [TOP, TOP, TOP]))


if __name__ == "__main__":
    unittest.main()
