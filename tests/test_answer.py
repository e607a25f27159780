"""Promise 2, of which sg_answer, and the refusals -3 and -2 ahead of it."""

import unittest

from groups import GOOD_GROUPS, LARGE_GROUPS, NOT_GOOD_GROUPS, SLOWEST_GROUPS, TOP, CallCase, not_numbers, some_numbers
from powershown.knowing import sg_answer


class Answer(CallCase):
    def test_written_out(self):
        self.answers(sg_answer, (23, 11, 2, 3, 4, 5), [0, 1])
        self.answers(sg_answer, (23, 11, 2, 10, 4, 0), [0, 10])
        self.answers(sg_answer, (23, 11, 2, 0, 3, 2), [0, 6])
        self.answers(sg_answer, (7, 3, 2, 1, 2, 1), [0, 0])
        self.answers(sg_answer, (3, 2, 2, 1, 0, 1), [0, 1])
        self.answers(sg_answer, (2039, 1019, 4, 1000, 18, 2), [0, 17])

    def test_every_input_of_small_groups(self):
        for p, q, g in ((3, 2, 2), (7, 3, 2), (11, 5, 3), (31, 5, 2), (23, 11, 2)):
            for r in range(q + 2):
                for x in range(q + 2):
                    for asked in range(q + 2):
                        fits = r < q and x < q and asked < q
                        expected = [0, (r + asked * x) % q] if fits else [-2]
                        self.answers(sg_answer, (p, q, g, r, x, asked), expected)

    def test_numbers_of_many_groups(self):
        for p, q, g in GOOD_GROUPS:
            for r in some_numbers(q):
                for x in some_numbers(q):
                    for asked in some_numbers(q):
                        self.answers(sg_answer, (p, q, g, r, x, asked), [0, (r + asked * x) % q])

    def test_0_and_q_less_1(self):
        for p, q, g in GOOD_GROUPS:
            last = q - 1
            for r in (0, last):
                self.answers(sg_answer, (p, q, g, r, 0, 0), [0, r])
                self.answers(sg_answer, (p, q, g, r, last, 0), [0, r])
                self.answers(sg_answer, (p, q, g, r, 0, last), [0, r])
            self.answers(sg_answer, (p, q, g, 0, last, last), [0, 1])
            self.answers(sg_answer, (p, q, g, last, last, last), [0, 0])

    def test_near_2_63_written_out(self):
        p, q, g = LARGE_GROUPS[1]
        self.assertEqual(q, 4611686018427385619)
        self.answers(sg_answer, (p, q, g, 4611686018427385618, 4611686018427385618, 1), [0, 4611686018427385617])
        self.answers(sg_answer, (p, q, g, 7, 4611686018427385617, 3), [0, 1])
        self.answers(sg_answer, (p, q, g, 1, 4294967296, 1073741824), [0, 2286])

    def test_group_that_is_not_good(self):
        for p, q, g in NOT_GOOD_GROUPS:
            for r in (0, 1, q, TOP):
                for x in (0, 1, q, TOP):
                    for asked in (0, 1, q, TOP):
                        self.answers(sg_answer, (p, q, g, r, x, asked), [-3])

    def test_one_is_not_a_number(self):
        for p, q, g in GOOD_GROUPS:
            for wrong in not_numbers(p, q):
                for right in some_numbers(q):
                    self.answers(sg_answer, (p, q, g, wrong, right, right), [-2])
                    self.answers(sg_answer, (p, q, g, right, wrong, right), [-2])
                    self.answers(sg_answer, (p, q, g, right, right, wrong), [-2])

    def test_none_is_a_number(self):
        for p, q, g in GOOD_GROUPS:
            for wrong in not_numbers(p, q):
                self.answers(sg_answer, (p, q, g, wrong, wrong, wrong), [-2])

    def test_comes_back_at_once(self):
        for p, q, g in SLOWEST_GROUPS:
            self.comes_back_at_once(sg_answer, (p, q, g, q - 1, q - 1, q - 1))
            self.comes_back_at_once(sg_answer, (p, q, g, TOP, TOP, TOP))


if __name__ == "__main__":
    unittest.main()
