"""zeros: at how many points f is 0, then these, and its refusals."""

import unittest

from noughtsets.polynomials import zeros
from tests.samples import (
    BY_HAND, NO_POLYNOMIALS, NO_SPACES, PRIMES, SPACES,
    all_terms, made_rows, nought_row, reckoned, row_of,
)


def answer_of(values):
    found = [x for x, number in enumerate(values) if number == 0]
    return [len(found)] + found


class Ordinary(unittest.TestCase):
    def test_by_hand(self):
        for p, n, f, values in BY_HAND:
            with self.subTest(p=p, n=n, f=f):
                self.assertEqual(zeros(p, n, f), answer_of(values))

    def test_written_out(self):
        self.assertEqual(zeros(2, 3, [1, 0, 0, 1, 1, 1, 1, 0]), [4, 0, 1, 2, 7])
        self.assertEqual(zeros(3, 2, [1, 0, 0, 2, 1, 0, 1, 0, 2]), [3, 1, 5, 8])
        self.assertEqual(zeros(5, 1, [1, 0, 1, 2]), [2, 2, 3])
        self.assertEqual(zeros(7, 1, [6, 0, 1, 3]), [3, 1, 2, 4])
        self.assertEqual(zeros(7, 2, [1, 0, 2, 1, 2, 0]), [1, 0])

    def test_made_rows(self):
        for p, n in SPACES:
            for f in made_rows(p, n):
                with self.subTest(p=p, n=n, f=f):
                    self.assertEqual(zeros(p, n, f), answer_of(reckoned(p, n, f)))

    def test_where_one_unknown_is_0(self):
        for p in PRIMES:
            everything = range(p * p * p)
            for k in range(3):
                row = [1, 0, 0, 0]
                row[1 + k] = 1
                found = [x for x in everything if x // p ** k % p == 0]
                with self.subTest(p=p, k=k):
                    self.assertEqual(zeros(p, 3, row), [p * p] + found)

    def test_whole_numbers_in_a_list(self):
        answer = zeros(5, 1, [1, 0, 1, 2])
        self.assertIs(type(answer), list)
        self.assertEqual({type(number) for number in answer}, {int})


class Corners(unittest.TestCase):
    def test_no_terms_is_0_everywhere(self):
        for p, n in SPACES:
            with self.subTest(p=p, n=n):
                self.assertEqual(zeros(p, n, []), [p ** n] + list(range(p ** n)))

    def test_with_terms_0_everywhere(self):
        for p, n in SPACES:
            for often in range(1, 14 - p):
                with self.subTest(p=p, n=n, often=often):
                    self.assertEqual(
                        zeros(p, n, nought_row(p, n, often)), [p ** n] + list(range(p ** n)))

    def test_a_term_that_is_1_is_0_nowhere(self):
        for p, n in SPACES:
            for factor in range(1, p):
                with self.subTest(p=p, n=n, factor=factor):
                    self.assertEqual(zeros(p, n, [factor] + [0] * n), [0])

    def test_more_terms_0_nowhere(self):
        self.assertEqual(zeros(3, 1, [1, 0, 1, 2]), [0])
        self.assertEqual(zeros(7, 1, [1, 0, 1, 2]), [0])
        self.assertEqual(zeros(2, 1, [1, 0, 1, 1, 1, 2]), [0])

    def test_powers_above_p(self):
        for p in PRIMES:
            for often in range(1, 13):
                with self.subTest(p=p, often=often):
                    self.assertEqual(zeros(p, 1, [1, often]), [1, 0])

    def test_p_of_2(self):
        self.assertEqual(zeros(2, 1, [1, 0, 1, 1]), [1, 1])
        self.assertEqual(zeros(2, 2, [1, 1, 1]), [3, 0, 1, 2])

    def test_a_row_of_400_numbers(self):
        for p in PRIMES:
            for chosen in (all_terms(3)[:100], all_terms(3)[-100:]):
                f = row_of(p, chosen)
                self.assertEqual(len(f), 400)
                with self.subTest(p=p):
                    self.assertEqual(zeros(p, 3, f), answer_of(reckoned(p, 3, f)))


class Refusals(unittest.TestCase):
    def test_no_such_space(self):
        for p, n in NO_SPACES:
            for f in ([], [1, 0], [1, 0, 0], [1, 0, 0, 0], [1, 0, 0, 0, 0], [1] * 400):
                with self.subTest(p=p, n=n, f=f):
                    self.assertEqual(zeros(p, n, f), [-22])

    def test_no_polynomial(self):
        for name, p, n, f in NO_POLYNOMIALS:
            with self.subTest(name):
                self.assertEqual(zeros(p, n, f), [-22])


if __name__ == "__main__":
    unittest.main()
