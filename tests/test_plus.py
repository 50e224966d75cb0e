"""plus: how many terms f and g added have, then the row, and its refusals."""

import unittest
from itertools import product

from noughtsets.polynomials import plus, reduced, value
from tests.samples import (
    GREATEST, NO_POLYNOMIALS, NO_SPACES, PRIMES, SPACES,
    all_terms, counted, factors_of, is_as_told, made_pairs, made_rows, nought_row, opposite, reckoned, row_of,
    short_pairs,
)

# p, n, both rows, the answer.
BY_HAND = [
    (2, 1, [1, 0, 1, 3], [1, 1, 1, 3], [2, 1, 0, 1, 1]),
    (2, 2, [1, 0, 0, 1, 0, 1], [1, 0, 1, 1, 1, 0], [2, 1, 0, 0, 1, 1, 0]),
    (2, 3, [1, 0, 0, 1, 1, 1, 1, 1], [1, 0, 1, 0], [3, 1, 0, 0, 1, 1, 0, 1, 0, 1, 1, 1, 1]),
    (3, 1, [2, 0, 1, 2], [2, 0, 1, 1, 1, 2], [3, 1, 0, 1, 1, 2, 2]),
    (3, 2, [1, 0, 0, 2, 1, 1], [1, 1, 1, 2, 0, 3], [2, 1, 0, 0, 2, 0, 3]),
    (3, 3, [2, 0, 1, 1, 1, 1, 0, 1], [2, 0, 1, 1, 2, 1, 1, 0], [3, 1, 0, 1, 1, 1, 1, 0, 1, 2, 1, 1, 0]),
    (5, 1, [3, 0, 4, 1, 1, 12], [2, 0, 4, 1, 3, 2], [3, 3, 1, 3, 2, 1, 12]),
    (5, 2, [3, 0, 0, 2, 0, 1, 4, 1, 0], [4, 0, 0, 2, 0, 1, 1, 2, 2], [4, 2, 0, 0, 4, 0, 1, 4, 1, 0, 1, 2, 2]),
    (5, 3, [1, 2, 0, 3], [4, 2, 0, 3], [0]),
    (7, 1, [6, 0, 6, 6], [6, 0, 1, 6], [1, 5, 0]),
    (7, 2, [5, 0, 2, 3, 1, 1], [4, 1, 1, 6, 2, 0], [2, 5, 0, 2, 6, 2, 0]),
    (7, 3, [3, 0, 0, 0, 6, 5, 4, 3], [3, 0, 0, 0, 6, 5, 4, 3], [2, 6, 0, 0, 0, 5, 5, 4, 3]),
]


def added(p, n, f, g):
    """The answer by going through all terms there are, in their order."""
    in_f = factors_of(n, f)
    in_g = factors_of(n, g)
    row = []
    for often in all_terms(n):
        factor = (in_f.get(often, 0) + in_g.get(often, 0)) % p
        if factor:
            row.extend((factor,) + often)
    return counted(n, row)


class Ordinary(unittest.TestCase):
    def test_by_hand(self):
        for p, n, f, g, answer in BY_HAND:
            with self.subTest(p=p, n=n, f=f, g=g):
                self.assertEqual(plus(p, n, f, g), answer)
                self.assertEqual(plus(p, n, g, f), answer)

    def test_made_pairs(self):
        for p, n in SPACES:
            for f, g in made_pairs(p, n):
                with self.subTest(p=p, n=n, f=f, g=g):
                    self.assertEqual(plus(p, n, f, g), added(p, n, f, g))

    def test_whole_numbers_in_a_list(self):
        answer = plus(5, 1, [1, 0, 1, 12], [1, 1, 1, 12])
        self.assertIs(type(answer), list)
        self.assertEqual({type(number) for number in answer}, {int})


class WithoutTerms(unittest.TestCase):
    def test_one_of_both(self):
        for p, n in SPACES:
            for f in made_rows(p, n):
                with self.subTest(p=p, n=n, f=f):
                    self.assertEqual(plus(p, n, f, []), counted(n, f))
                    self.assertEqual(plus(p, n, [], f), counted(n, f))

    def test_both(self):
        for p, n in SPACES:
            with self.subTest(p=p, n=n):
                self.assertEqual(plus(p, n, [], []), [0])


class LikeTerms(unittest.TestCase):
    def test_factors_that_come_to_p_or_more(self):
        self.assertEqual(plus(3, 1, [2, 1], [2, 1]), [1, 1, 1])
        self.assertEqual(plus(5, 2, [3, 1, 2], [4, 1, 2]), [1, 2, 1, 2])
        self.assertEqual(plus(7, 3, [6, 0, 1, 2], [6, 0, 1, 2]), [1, 5, 0, 1, 2])

    def test_factors_that_come_to_0(self):
        self.assertEqual(plus(2, 1, [1, 1], [1, 1]), [0])
        self.assertEqual(plus(5, 1, [1, 0, 2, 1], [3, 1, 1, 2]), [2, 1, 0, 1, 2])
        self.assertEqual(plus(5, 1, [1, 0, 2, 1], [4, 0, 1, 1]), [1, 3, 1])
        self.assertEqual(plus(5, 1, [1, 0, 2, 1], [1, 0, 3, 1]), [1, 2, 0])

    def test_all_factors(self):
        for p, n in SPACES:
            for often in ([0] * n, [1] * n, [12] * n, [0] * (n - 1) + [p]):
                for first, second in product(range(1, p), repeat=2):
                    total = (first + second) % p
                    with self.subTest(p=p, n=n, often=often, first=first, second=second):
                        self.assertEqual(
                            plus(p, n, [first] + often, [second] + often), [1, total] + often if total else [0])

    def test_all_terms_fall_away(self):
        for p, n in SPACES:
            for f in made_rows(p, n):
                with self.subTest(p=p, n=n, f=f):
                    self.assertEqual(plus(p, n, f, opposite(p, n, f)), [0])

    def test_the_same_list_twice(self):
        for p, n in SPACES:
            for f in made_rows(p, n):
                with self.subTest(p=p, n=n, f=f):
                    self.assertEqual(plus(p, n, f, f), added(p, n, list(f), list(f)))

    def test_unlike_terms_with_the_same_numbers(self):
        self.assertEqual(plus(5, 2, [1, 1, 2], [4, 2, 1]), [2, 1, 1, 2, 4, 2, 1])
        self.assertEqual(plus(5, 3, [1, 0, 1, 2], [4, 0, 2, 1]), [2, 1, 0, 1, 2, 4, 0, 2, 1])

    def test_terms_alike_only_when_reduced_stay_two(self):
        for p, n in SPACES:
            rest = [0] * (n - 1)
            with self.subTest(p=p, n=n):
                self.assertEqual(
                    plus(p, n, [p - 1, 1] + rest, [1, p] + rest), [2, p - 1, 1] + rest + [1, p] + rest)
                self.assertEqual(reduced(p, n, plus(p, n, [p - 1, 1] + rest, [1, p] + rest)[1:]), [0])


class Order(unittest.TestCase):
    def test_g_ahead(self):
        self.assertEqual(plus(5, 1, [1, 3, 2, 4], [3, 0, 4, 1]), [4, 3, 0, 4, 1, 1, 3, 2, 4])
        self.assertEqual(plus(5, 2, [1, 1, 0], [2, 0, 1]), [2, 2, 0, 1, 1, 1, 0])
        self.assertEqual(plus(5, 3, [1, 1, 1, 0], [2, 1, 0, 1]), [2, 2, 1, 0, 1, 1, 1, 1, 0])

    def test_g_between(self):
        self.assertEqual(plus(5, 1, [1, 1, 2, 4], [3, 2, 4, 3]), [4, 1, 1, 3, 2, 4, 3, 2, 4])
        self.assertEqual(plus(5, 2, [1, 0, 2, 1, 2, 0], [2, 1, 1]), [3, 1, 0, 2, 2, 1, 1, 1, 2, 0])
        self.assertEqual(
            plus(5, 3, [1, 0, 0, 2, 1, 0, 2, 0], [2, 0, 1, 1]), [3, 1, 0, 0, 2, 2, 0, 1, 1, 1, 0, 2, 0])

    def test_g_behind(self):
        self.assertEqual(plus(5, 1, [3, 0, 4, 1], [1, 3, 2, 4]), [4, 3, 0, 4, 1, 1, 3, 2, 4])
        self.assertEqual(plus(5, 2, [1, 3, 0], [2, 0, 4]), [2, 1, 3, 0, 2, 0, 4])
        self.assertEqual(plus(5, 3, [1, 0, 0, 10], [2, 0, 1, 9]), [2, 1, 0, 0, 10, 2, 0, 1, 9])

    def test_ahead_between_and_behind(self):
        self.assertEqual(
            plus(7, 1, [1, 1, 2, 4, 3, 6], [4, 0, 5, 3, 6, 4, 1, 12]),
            [6, 4, 0, 1, 1, 5, 3, 1, 4, 3, 6, 1, 12])

    def test_by_number_not_by_sign(self):
        self.assertEqual(plus(5, 1, [1, 9], [1, 10]), [2, 1, 9, 1, 10])
        self.assertEqual(plus(5, 2, [1, 10, 2], [1, 9, 3]), [2, 1, 9, 3, 1, 10, 2])

    def test_every_two_terms(self):
        for n in (1, 2, 3):
            chosen = all_terms(n)[::n * n * n]
            for k in range(1, len(chosen)):
                row = [1] + list(chosen[k - 1]) + [2] + list(chosen[k])
                with self.subTest(n=n, k=k):
                    self.assertEqual(plus(3, n, row[n + 1:], row[:n + 1]), [2] + row)


class WhatHolds(unittest.TestCase):
    def test_the_sum_of_both_values_at_every_point(self):
        for p, n in SPACES:
            for f, g in short_pairs(p, n) + [([], []), (nought_row(p, n), [1] + [12] * n)]:
                row = plus(p, n, f, g)[1:]
                for x in range(p ** n):
                    total = (value(p, n, x, f)[0] + value(p, n, x, g)[0]) % p
                    self.assertEqual(value(p, n, x, row), [total], (p, n, x, f, g))

    def test_the_sum_of_both_values_for_all_pairs(self):
        for p, n in SPACES:
            for f, g in made_pairs(p, n):
                total = [(a + b) % p for a, b in zip(reckoned(p, n, f), reckoned(p, n, g))]
                with self.subTest(p=p, n=n, f=f, g=g):
                    self.assertEqual(reckoned(p, n, plus(p, n, f, g)[1:]), total)

    def test_the_row_is_a_polynomial(self):
        for p, n in SPACES:
            for f, g in made_pairs(p, n):
                with self.subTest(p=p, n=n, f=f, g=g):
                    answer = plus(p, n, f, g)
                    self.assertEqual(answer, counted(n, answer[1:]))
                    self.assertTrue(is_as_told(p, n, answer[1:]))

    def test_the_row_can_be_handed_in_again(self):
        for p, n in SPACES:
            for f, g in made_pairs(p, n):
                answer = plus(p, n, f, g)
                if len(answer) <= 401:
                    with self.subTest(p=p, n=n, f=f, g=g):
                        self.assertEqual(plus(p, n, answer[1:], []), answer)
                        self.assertEqual(plus(p, n, answer[1:], opposite(p, n, g)), counted(n, f))
                        self.assertNotEqual(reduced(p, n, answer[1:]), [-22])

    def test_nought_added_changes_no_value(self):
        for p, n in SPACES:
            for f, g in short_pairs(p, n):
                with self.subTest(p=p, n=n, f=f):
                    row = plus(p, n, f, nought_row(p, n))[1:]
                    self.assertEqual(reduced(p, n, row), reduced(p, n, f))


class Corners(unittest.TestCase):
    def test_a_term_that_is_1(self):
        for p, n in SPACES:
            one = [1] + [0] * n
            other = [1] + [0] * (n - 1) + [1]
            with self.subTest(p=p, n=n):
                self.assertEqual(plus(p, n, one, other), [2] + one + other)
                self.assertEqual(plus(p, n, other, one), [2] + one + other)
                self.assertEqual(plus(p, n, one, [p - 1] + [0] * n), [0])

    def test_1_added_again_and_again(self):
        for p, n in SPACES:
            row = []
            for turn in range(1, 2 * p + 2):
                answer = plus(p, n, row, [1] + [0] * n)
                with self.subTest(p=p, n=n, turn=turn):
                    self.assertEqual(answer, [1, turn % p] + [0] * n if turn % p else [0])
                row = answer[1:]

    def test_p_of_2(self):
        self.assertEqual(plus(2, 1, [1, 0, 1, 1], [1, 0, 1, 2]), [2, 1, 1, 1, 2])
        self.assertEqual(plus(2, 2, [1, 1, 1], [1, 1, 1]), [0])
        self.assertEqual(plus(2, 3, [1, 12, 12, 12], [1, 0, 0, 0]), [2, 1, 0, 0, 0, 1, 12, 12, 12])

    def test_powers_above_p_stay(self):
        for p in PRIMES:
            for often in range(p, 13):
                with self.subTest(p=p, often=often):
                    self.assertEqual(plus(p, 1, [1, 0], [1, often]), [2, 1, 0, 1, often])

    def test_400_numbers_each(self):
        for p in PRIMES:
            low = row_of(p, all_terms(3)[:100])
            high = row_of(p, all_terms(3)[-100:])
            with self.subTest(p=p):
                self.assertEqual(plus(p, 3, low, high), [200] + low + high)
                self.assertEqual(plus(p, 3, high, low), [200] + low + high)
                self.assertEqual(plus(p, 3, low, opposite(p, 3, low)), [0])
                self.assertEqual(plus(p, 3, high, high), added(p, 3, high, high))

    def test_400_numbers_each_in_turns(self):
        even = row_of(7, all_terms(3)[:200:2])
        odd = row_of(7, all_terms(3)[1:200:2])
        answer = plus(7, 3, odd, even)
        self.assertEqual(answer, added(7, 3, even, odd))
        self.assertEqual(answer[0], 200)

    def test_as_long_as_may_be_with_two_unknowns(self):
        for p in PRIMES:
            low = row_of(p, all_terms(2)[:133])
            high = row_of(p, all_terms(2)[-133:])
            with self.subTest(p=p):
                self.assertEqual(plus(p, 2, high, low), added(p, 2, low, high))


class Refusals(unittest.TestCase):
    def test_no_such_space(self):
        rows = ([], [1, 0], [1, 0, 0], [1, 0, 0, 0], [1, 0, 0, 0, 0], [1] * 400)
        for p, n in NO_SPACES:
            for f, g in product(rows, repeat=2):
                with self.subTest(p=p, n=n, f=f, g=g):
                    self.assertEqual(plus(p, n, f, g), [-22])

    def test_by_f_alone(self):
        for name, p, n, wrong in NO_POLYNOMIALS:
            for right in ([], [1] + [0] * n, nought_row(p, n)):
                with self.subTest(name, right=right):
                    self.assertEqual(plus(p, n, wrong, right), [-22])

    def test_by_g_alone(self):
        for name, p, n, wrong in NO_POLYNOMIALS:
            for right in ([], [1] + [0] * n, nought_row(p, n)):
                with self.subTest(name, right=right):
                    self.assertEqual(plus(p, n, right, wrong), [-22])

    def test_by_both(self):
        for name, p, n, wrong in NO_POLYNOMIALS:
            with self.subTest(name):
                self.assertEqual(plus(p, n, wrong, wrong), [-22])

    def test_two_halves_make_no_whole(self):
        # Behind one another they would be a polynomial; each by itself is none.
        self.assertEqual(plus(5, 2, [1, 0], [0, 1, 0, 1]), [-22])
        self.assertEqual(plus(5, 1, [1], [0]), [-22])

    def test_a_factor_that_would_come_right_is_refused(self):
        self.assertEqual(plus(5, 1, [0, 1], [1, 1]), [-22])
        self.assertEqual(plus(5, 1, [6, 1], [1, 1]), [-22])
        self.assertEqual(plus(5, 1, [1, 1], [5, 1]), [-22])

    def test_greatest_numbers(self):
        whole = [GREATEST] * 400
        self.assertEqual(plus(7, 3, whole, whole), [-22])
        self.assertEqual(plus(GREATEST, GREATEST, whole, whole), [-22])
        self.assertEqual(plus(7, 3, row_of(7, all_terms(3)[:100]), whole), [-22])
        self.assertEqual(plus(7, 3, whole, row_of(7, all_terms(3)[:100])), [-22])


if __name__ == "__main__":
    unittest.main()
