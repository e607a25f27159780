"""Promise 5, sg_find, and the refusals -3 and -2 ahead of it."""

import itertools
import unittest

from groups import (GOOD_GROUPS, NOT_GOOD_GROUPS, SLOWEST_GROUPS, TOP, CallCase, honest, not_as_told, not_elements,
                    some_elements, some_numbers)
from powershown.knowing import sg_answer, sg_check, sg_find, sg_power


def plainly_holds(p, g, y, shown):
    begin, asked, answer = shown
    return g ** answer % p == begin * y ** asked % p


def plainly_found(p, q, g, y, s, t):
    if s[0] == t[0] and s[1] != t[1] and plainly_holds(p, g, y, s) and plainly_holds(p, g, y, t):
        return [0] + [x for x in range(q) if g ** x % p == y]
    return [-5]


def pairs_of_questions(q):
    return list(itertools.permutations(some_numbers(q), 2))


class Find(CallCase):
    def both_ways(self, p, q, g, y, s, t, expected):
        self.answers(sg_find, (p, q, g, y, s, t), expected)
        self.answers(sg_find, (p, q, g, y, t, s), expected)

    def test_written_out(self):
        self.both_ways(23, 11, 2, 16, [8, 5, 1], [8, 2, 0], [0, 4])
        self.both_ways(23, 11, 2, 16, [8, 0, 3], [8, 10, 10], [0, 4])
        self.both_ways(23, 11, 2, 1, [8, 5, 3], [8, 2, 3], [0, 0])
        self.both_ways(3, 2, 2, 2, [1, 0, 0], [1, 1, 1], [0, 1])
        self.both_ways(3, 2, 2, 1, [2, 0, 1], [2, 1, 1], [0, 0])
        self.both_ways(23, 11, 2, 16, [8, 5, 1], [8, 2, 1], [-5])
        self.both_ways(23, 11, 2, 16, [8, 5, 1], [4, 2, 10], [-5])
        self.both_ways(23, 11, 2, 16, [8, 5, 1], [8, 5, 1], [-5])
        self.both_ways(23, 11, 2, 16, [8, 5, 1], [8, 13, 0], [-2])
        self.both_ways(23, 11, 5, 16, [8, 5, 1], [8, 2, 0], [-3])

    def test_every_two_shown_in_small_groups(self):
        for p, q, g, powers in ((3, 2, 2, (0, 1)), (5, 2, 4, (0, 1)), (7, 3, 2, (0, 1, 2)), (11, 5, 3, (2,))):
            fitting = [value for value in range(1, p) if value ** q % p == 1]
            every = [list(shown) for shown in itertools.product(fitting, range(q), range(q))]
            for x in powers:
                y = g ** x % p
                for s in every:
                    for t in every:
                        self.answers(sg_find, (p, q, g, y, s, t), plainly_found(p, q, g, y, s, t))

    def test_power_is_found(self):
        for p, q, g in GOOD_GROUPS:
            for x in some_numbers(q):
                y = sg_power(p, q, g, g, x)[1]
                for r in (0, q // 3, q - 1):
                    begin = sg_power(p, q, g, g, r)[1]
                    for one, other in pairs_of_questions(q):
                        s = [begin, one, sg_answer(p, q, g, r, x, one)[1]]
                        t = [begin, other, sg_answer(p, q, g, r, x, other)[1]]
                        self.answers(sg_find, (p, q, g, y, s, t), [0, x])

    def test_one_or_both_do_not_hold(self):
        for p, q, g in GOOD_GROUPS:
            for x in some_numbers(q):
                y = pow(g, x, p)
                s = honest(p, q, g, x, 1, q - 1)
                t = honest(p, q, g, x, 1, q // 3)
                self.both_ways(p, q, g, y, s, t, [0, x])
                wrong_s = s[:2] + [(s[2] + 1) % q]
                # Moved alike, the two answers are as far apart as if both held.
                wrong_t = t[:2] + [(t[2] + 1) % q]
                self.assertEqual((sg_check(p, q, g, y, wrong_s), sg_check(p, q, g, y, wrong_t)), ([0], [0]))
                self.both_ways(p, q, g, y, wrong_s, t, [-5])
                self.both_ways(p, q, g, y, s, wrong_t, [-5])
                self.both_ways(p, q, g, y, wrong_s, wrong_t, [-5])

    def test_they_hold_for_another_y(self):
        for p, q, g in GOOD_GROUPS:
            for x in some_numbers(q):
                s = honest(p, q, g, x, 1, 1)
                t = honest(p, q, g, x, 1, 0)
                for y in some_elements(p, q, g):
                    self.both_ways(p, q, g, y, s, t, [0, x] if y == pow(g, x, p) else [-5])

    def test_begin_differs(self):
        for p, q, g in GOOD_GROUPS:
            for x in some_numbers(q):
                y = pow(g, x, p)
                for one, other in pairs_of_questions(q):
                    s = honest(p, q, g, x, 0, one)
                    t = honest(p, q, g, x, 1, other)
                    self.assertEqual((sg_check(p, q, g, y, s), sg_check(p, q, g, y, t)), ([1], [1]))
                    self.answers(sg_find, (p, q, g, y, s, t), [-5])
                self.both_ways(p, q, g, y, honest(p, q, g, x, 0, 1), honest(p, q, g, x, 1, 1), [-5])

    def test_asked_alike(self):
        for p, q, g in GOOD_GROUPS:
            for x in some_numbers(q):
                y = pow(g, x, p)
                for asked in some_numbers(q):
                    s = honest(p, q, g, x, 1, asked)
                    self.answers(sg_find, (p, q, g, y, s, list(s)), [-5])
                    self.answers(sg_find, (p, q, g, y, s, s), [-5])
                    self.both_ways(p, q, g, y, s, s[:2] + [(s[2] + 1) % q], [-5])

    def test_group_that_is_not_good(self):
        for p, q, g in NOT_GOOD_GROUPS:
            for y in (0, 1, 2, p, TOP):
                for s in ([1, 0, 0], [g, 0, 1], [0, 0, 0], [1, q, 0], [1, 0, q], [TOP, TOP, TOP]):
                    self.both_ways(p, q, g, y, s, [1, 1, 0], [-3])
                    self.answers(sg_find, (p, q, g, y, s, s), [-3])

    def test_y_is_not_an_element(self):
        for p, q, g in GOOD_GROUPS:
            for y in not_elements(p, q, g):
                self.both_ways(p, q, g, y, [1, 0, 0], [1, 1, 1], [-2])
                self.both_ways(p, q, g, y, [1, 0, 1], [g, 0, 0], [-2])
                self.both_ways(p, q, g, y, [1, 0, 0], [1, 0, 0], [-2])

    def test_one_of_shown_is_not_as_told(self):
        for p, q, g in GOOD_GROUPS:
            for x, r, asked in ((1, 1, 1), (0, 0, 0), (q - 1, q // 2, q - 1)):
                y = pow(g, x, p)
                shown = honest(p, q, g, x, r, asked)
                # Were s as told, x could be found with the second; with each other one -5 would be the answer.
                others = (shown, honest(p, q, g, x, r, (asked + 1) % q), honest(p, q, g, x, (r + 1) % q, asked),
                          shown[:2] + [(shown[2] + 1) % q])
                for s in not_as_told(p, q, g, shown):
                    for t in others:
                        self.both_ways(p, q, g, y, s, t, [-2])
                    self.answers(sg_find, (p, q, g, y, s, s), [-2])

    def test_begins_that_are_alike_but_not_as_told(self):
        for p, q, g in GOOD_GROUPS:
            for begin in not_elements(p, q, g):
                self.both_ways(p, q, g, g, [begin, 0, 0], [begin, 1, 1], [-2])

    def test_nothing_is_as_told(self):
        for p, q, g in GOOD_GROUPS:
            self.answers(sg_find, (p, q, g, 0, [0, q, q], [p, q, q]), [-2])
            self.answers(sg_find, (p, q, g, TOP, [TOP, TOP, TOP], [TOP, TOP, TOP]), [-2])

    def test_lists_are_left_as_they_are(self):
        for first in ([8, 5, 1], [8, 2, 0], [4, 2, 10], [0, 5, 1], [8, 16, 1], [TOP, TOP, TOP]):
            for p, q, g, y in ((23, 11, 2, 16), (23, 11, 2, 5), (23, 11, 5, 16)):
                s, t = list(first), [8, 5, 1]
                sg_find(p, q, g, y, s, t)
                sg_find(p, q, g, y, t, s)
                sg_find(p, q, g, y, s, s)
                self.assertEqual((s, t), (first, [8, 5, 1]))

    def test_comes_back_at_once(self):
        for p, q, g in SLOWEST_GROUPS:
            s, t = honest(p, q, g, q - 1, q - 1, 0), honest(p, q, g, q - 1, q - 1, q - 1)
            self.comes_back_at_once(sg_find, (p, q, g, pow(g, q - 1, p), s, t))
            self.comes_back_at_once(sg_find, (p, q, g, pow(g, q - 1, p), t, s))
            self.comes_back_at_once(sg_find, (p, q, g, TOP, [TOP, TOP, TOP], [TOP, TOP, TOP]))


if __name__ == "__main__":
    unittest.main()
