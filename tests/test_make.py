"""Promise 4, sg_make, and the refusals -3 and -2 ahead of it."""

import unittest

from groups import (GOOD_GROUPS, NOT_GOOD_GROUPS, SLOWEST_GROUPS, TOP, CallCase, honest, not_elements, not_numbers,
                    some_elements, some_numbers)
from powershown.knowing import sg_check, sg_make


class Make(CallCase):
    def test_written_out(self):
        self.answers(sg_make, (23, 11, 2, 16, 5, 1), [0, 8])
        self.answers(sg_make, (23, 11, 2, 16, 7, 10), [0, 16])
        self.answers(sg_make, (23, 11, 2, 16, 0, 0), [0, 1])
        self.answers(sg_make, (23, 11, 2, 16, 0, 3), [0, 8])
        self.answers(sg_make, (23, 11, 2, 16, 1, 0), [0, 13])
        self.answers(sg_make, (7, 3, 2, 4, 2, 1), [0, 1])
        self.answers(sg_make, (3, 2, 2, 2, 1, 0), [0, 2])

    def test_every_input_of_small_groups(self):
        for p, q, g in ((3, 2, 2), (5, 2, 4), (7, 3, 2), (11, 5, 3), (23, 11, 2)):
            fitting = [value for value in range(1, p) if value ** q % p == 1]
            for y in range(p + 2):
                for asked in range(q + 2):
                    for answer in range(q + 2):
                        expected = [-2]
                        if y in fitting and asked < q and answer < q:
                            begins = [b for b in fitting if g ** answer % p == b * y ** asked % p]
                            self.assertEqual(len(begins), 1)
                            expected = [0] + begins
                        self.answers(sg_make, (p, q, g, y, asked, answer), expected)

    def test_it_holds(self):
        for p, q, g in GOOD_GROUPS:
            for y in some_elements(p, q, g):
                for asked in some_numbers(q):
                    for answer in some_numbers(q):
                        first, begin = sg_make(p, q, g, y, asked, answer)
                        self.assertEqual(first, 0)
                        self.assertEqual(pow(g, answer, p), begin * pow(y, asked, p) % p)
                        self.answers(sg_check, (p, q, g, y, [begin, asked, answer]), [1])

    def test_begin_of_the_honest(self):
        for p, q, g in GOOD_GROUPS:
            for x in some_numbers(q):
                for r in some_numbers(q):
                    begin, asked, answer = honest(p, q, g, x, r, q - 1)
                    self.answers(sg_make, (p, q, g, pow(g, x, p), asked, answer), [0, begin])

    def test_y_1(self):
        for p, q, g in GOOD_GROUPS:
            for asked in some_numbers(q):
                for answer in some_numbers(q):
                    self.answers(sg_make, (p, q, g, 1, asked, answer), [0, pow(g, answer, p)])

    def test_asked_0_and_q_less_1(self):
        for p, q, g in GOOD_GROUPS:
            for y in some_elements(p, q, g):
                self.answers(sg_make, (p, q, g, y, 0, 0), [0, 1])
                self.answers(sg_make, (p, q, g, y, 0, q - 1), [0, pow(g, -1, p)])
                self.answers(sg_make, (p, q, g, y, q - 1, 0), [0, y])
                self.answers(sg_make, (p, q, g, y, q - 1, q - 1), [0, y * pow(g, -1, p) % p])

    def test_group_that_is_not_good(self):
        for p, q, g in NOT_GOOD_GROUPS:
            for y in (0, 1, 2, p, TOP):
                for asked in (0, 1, q, TOP):
                    for answer in (0, 1, q, TOP):
                        self.answers(sg_make, (p, q, g, y, asked, answer), [-3])

    def test_y_is_not_an_element(self):
        for p, q, g in GOOD_GROUPS:
            for y in not_elements(p, q, g):
                for number in some_numbers(q):
                    self.answers(sg_make, (p, q, g, y, number, number), [-2])
                    self.answers(sg_make, (p, q, g, y, 0, number), [-2])

    def test_asked_or_answer_is_not_a_number(self):
        for p, q, g in GOOD_GROUPS:
            for wrong in not_numbers(p, q):
                for right in some_numbers(q):
                    for y in (1, g):
                        self.answers(sg_make, (p, q, g, y, wrong, right), [-2])
                        self.answers(sg_make, (p, q, g, y, right, wrong), [-2])

    def test_nothing_is_as_told(self):
        for p, q, g in GOOD_GROUPS:
            self.answers(sg_make, (p, q, g, 0, q, q), [-2])
            self.answers(sg_make, (p, q, g, TOP, TOP, TOP), [-2])

    def test_comes_back_at_once(self):
        for p, q, g in SLOWEST_GROUPS:
            for y in (g, TOP):
                self.comes_back_at_once(sg_make, (p, q, g, y, 0, q - 1))
                self.comes_back_at_once(sg_make, (p, q, g, y, q - 1, q - 1))
                self.comes_back_at_once(sg_make, (p, q, g, y, TOP, TOP))


if __name__ == "__main__":
    unittest.main()
