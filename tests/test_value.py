"""value: f's value at a point, and its refusals."""

import unittest

from noughtsets.polynomials import value
from tests.samples import (
    BY_HAND, BY_HAND_AT, GREATEST, NO_POLYNOMIALS, NO_SPACES, PRIMES, SPACES,
    all_terms, made_rows, nought_row, reckoned, row_of,
)


class Ordinary(unittest.TestCase):
    def test_by_hand_at_all_points(self):
        for p, n, f, answers in BY_HAND:
            for x, answer in enumerate(answers):
                with self.subTest(p=p, n=n, f=f, x=x):
                    self.assertEqual(value(p, n, x, f), [answer])

    def test_by_hand_at_a_point(self):
        for p, n, f, x, answer in BY_HAND_AT:
            with self.subTest(p=p, n=n, f=f, x=x):
                self.assertEqual(value(p, n, x, f), [answer])

    def test_made_rows_at_several_points(self):
        for p, n in SPACES:
            for f in made_rows(p, n):
                answers = reckoned(p, n, f)
                for x in sorted(set(list(range(0, p ** n, 5)) + [0, 1, p ** n - 1])):
                    with self.subTest(p=p, n=n, f=f, x=x):
                        self.assertEqual(value(p, n, x, f), [answers[x]])

    def test_points_are_numbered_from_the_first_number_on(self):
        for p in PRIMES:
            for x in range(p * p * p):
                with self.subTest(p=p, x=x):
                    self.assertEqual(value(p, 3, x, [1, 1, 0, 0]), [x % p])
                    self.assertEqual(value(p, 3, x, [1, 0, 1, 0]), [x // p % p])
                    self.assertEqual(value(p, 3, x, [1, 0, 0, 1]), [x // p // p])

    def test_whole_numbers_in_a_list(self):
        answer = value(5, 1, 2, [1, 0, 1, 2])
        self.assertIs(type(answer), list)
        self.assertIs(type(answer[0]), int)


class Corners(unittest.TestCase):
    def test_no_terms(self):
        for p, n in SPACES:
            for x in (0, 1, p ** n - 1):
                with self.subTest(p=p, n=n, x=x):
                    self.assertEqual(value(p, n, x, []), [0])

    def test_a_term_that_is_1(self):
        for p, n in SPACES:
            for x in (0, 1, p ** n - 1):
                for factor in range(1, p):
                    with self.subTest(p=p, n=n, x=x, factor=factor):
                        self.assertEqual(value(p, n, x, [factor] + [0] * n), [factor])

    def test_each_power_of_each_number(self):
        for p in PRIMES:
            for often in range(13):
                for x in range(p):
                    with self.subTest(p=p, often=often, x=x):
                        self.assertEqual(value(p, 1, x, [1, often]), [x ** often % p])

    def test_p_of_2(self):
        self.assertEqual([value(2, 1, x, [1, 0, 1, 1]) for x in (0, 1)], [[1], [0]])
        self.assertEqual([value(2, 1, x, [1, 1, 1, 12]) for x in (0, 1)], [[0], [0]])

    def test_terms_that_are_0_everywhere(self):
        for p, n in SPACES:
            for x in range(p ** n):
                with self.subTest(p=p, n=n, x=x):
                    self.assertEqual(value(p, n, x, nought_row(p, n)), [0])

    def test_greatest_of_all_that_is_allowed(self):
        self.assertEqual(value(7, 3, 342, [6, 12, 12, 12]), [6])
        self.assertEqual(value(7, 3, 171, [6, 12, 12, 12]), [6])

    def test_a_row_of_400_numbers(self):
        for p in PRIMES:
            for chosen in (all_terms(3)[:100], all_terms(3)[-100:]):
                f = row_of(p, chosen)
                self.assertEqual(len(f), 400)
                answers = reckoned(p, 3, f)
                for x in (0, 1, p, p * p, p ** 3 - 1):
                    with self.subTest(p=p, x=x):
                        self.assertEqual(value(p, 3, x, f), [answers[x]])


class Refusals(unittest.TestCase):
    def test_no_such_space(self):
        for p, n in NO_SPACES:
            for f in ([], [1, 0], [1, 0, 0], [1, 0, 0, 0], [1, 0, 0, 0, 0], [1] * 400):
                with self.subTest(p=p, n=n, f=f):
                    self.assertEqual(value(p, n, 0, f), [-22])

    def test_no_polynomial(self):
        for name, p, n, f in NO_POLYNOMIALS:
            with self.subTest(name):
                self.assertEqual(value(p, n, 0, f), [-22])

    def test_no_point(self):
        for p, n in SPACES:
            for f in ([], [1] + [0] * n, nought_row(p, n)):
                for x in (p ** n, p ** n + 1, 343 + p, GREATEST):
                    with self.subTest(p=p, n=n, f=f, x=x):
                        self.assertEqual(value(p, n, x, f), [-2])

    def test_the_last_point_is_one(self):
        for p, n in SPACES:
            with self.subTest(p=p, n=n):
                self.assertEqual(value(p, n, p ** n - 1, [1] + [0] * (n - 1) + [1]), [p - 1])

    def test_both_due(self):
        for x in (343, GREATEST):
            for p, n in NO_SPACES:
                with self.subTest(p=p, n=n, x=x):
                    self.assertEqual(value(p, n, x, []), [-22])
            for name, p, n, f in NO_POLYNOMIALS:
                with self.subTest(name, x=x):
                    self.assertEqual(value(p, n, x, f), [-22])


if __name__ == "__main__":
    unittest.main()
