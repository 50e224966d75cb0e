"""times: how many terms f and g multiplied have, then the row, and its refusals."""

import time
import unittest
from itertools import product

from noughtsets.polynomials import plus, reduced, times, value, zeros
from tests.samples import (
    GREATEST, NO_POLYNOMIALS, NO_SPACES, PRIMES, SPACES,
    all_terms, counted, greatest_degree, is_as_told, low_pairs, made_rows, multiplied, nought_row, opposite,
    reckoned, row_of,
)

# p, n, both rows, the answer.
BY_HAND = [
    (2, 1, [1, 0, 1, 1], [1, 0, 1, 2], [4, 1, 0, 1, 1, 1, 2, 1, 3]),
    (2, 2, [1, 0, 1, 1, 1, 0], [1, 0, 0, 1, 1, 0], [4, 1, 0, 1, 1, 1, 0, 1, 1, 1, 1, 2, 0]),
    (2, 3, [1, 0, 0, 1, 1, 1, 0, 0], [1, 0, 1, 0], [2, 1, 0, 1, 1, 1, 1, 1, 0]),
    (3, 1, [2, 0, 1, 1], [1, 0, 2, 1], [3, 2, 0, 2, 1, 2, 2]),
    (3, 2, [2, 0, 1, 1, 1, 0], [1, 0, 1, 1, 1, 0], [2, 2, 0, 2, 1, 2, 0]),
    (3, 3, [1, 0, 0, 0, 2, 1, 1, 1], [2, 0, 0, 1], [2, 2, 0, 0, 1, 1, 1, 1, 2]),
    (5, 1, [3, 0, 4, 3], [2, 1, 1, 2], [4, 1, 1, 3, 2, 3, 4, 4, 5]),
    (5, 2, [1, 0, 0, 2, 0, 1, 3, 1, 0], [4, 1, 2], [3, 4, 1, 2, 3, 1, 3, 2, 2, 2]),
    (5, 3, [4, 2, 0, 3], [4, 1, 1, 0], [1, 1, 3, 1, 3]),
    (7, 1, [6, 0, 1, 6], [1, 0, 1, 6], [2, 6, 0, 1, 12]),
    (7, 2, [1, 0, 1, 3, 1, 0], [5, 0, 1, 6, 1, 0], [2, 5, 0, 2, 4, 2, 0]),
    (7, 3, [2, 0, 0, 0, 5, 0, 1, 0], [3, 0, 0, 1, 4, 1, 0, 0],
     [4, 6, 0, 0, 1, 1, 1, 0, 0, 1, 0, 1, 1, 6, 1, 1, 0]),
]


def one(n):
    """The row of the term 1."""
    return [1] + [0] * n


def term_of_degree(n, count, factor=1):
    """A row of one term: each unknown as often as it may be, from the last one on."""
    often = []
    rest = count
    for k in range(n):
        often.insert(0, min(rest, 12))
        rest -= often[0]
    return [factor] + often


class Ordinary(unittest.TestCase):
    def test_by_hand(self):
        for p, n, f, g, answer in BY_HAND:
            with self.subTest(p=p, n=n, f=f, g=g):
                self.assertEqual(times(p, n, f, g), answer)
                self.assertEqual(times(p, n, g, f), answer)

    def test_every_space_by_hand(self):
        self.assertEqual([(p, n) for p, n, f, g, answer in BY_HAND], SPACES)

    def test_made_pairs(self):
        for p, n in SPACES:
            for f, g in low_pairs(p, n):
                with self.subTest(p=p, n=n, f=f, g=g):
                    # assertEqual would look for minutes for where long rows differ.
                    self.assertTrue(times(p, n, f, g) == multiplied(p, n, f, g))
                    self.assertTrue(times(p, n, g, f) == multiplied(p, n, f, g))

    def test_every_two_terms(self):
        for n in (1, 2, 3):
            chosen = [often for often in all_terms(n) if sum(often) <= 6][::n]
            for first, second in product(chosen, repeat=2):
                row = [4] + [a + b for a, b in zip(first, second)]
                self.assertEqual(times(5, n, [2] + list(first), [2] + list(second)), [1] + row)

    def test_every_two_factors(self):
        for p, n in SPACES:
            for first, second in product(range(1, p), repeat=2):
                with self.subTest(p=p, n=n, first=first, second=second):
                    self.assertEqual(
                        times(p, n, [first] + [1] * n, [second] + [2] * n), [1, first * second % p] + [3] * n)

    def test_whole_numbers_in_a_list(self):
        answer = times(5, 1, [1, 0, 1, 6], [1, 1, 1, 6])
        self.assertIs(type(answer), list)
        self.assertEqual({type(number) for number in answer}, {int})


class WithoutTerms(unittest.TestCase):
    def test_one_of_both(self):
        for p, n in SPACES:
            for f in made_rows(p, n):
                answer = [0] if greatest_degree(n, f) <= 12 else [-28]
                with self.subTest(p=p, n=n, f=f):
                    self.assertEqual(times(p, n, f, []), answer)
                    self.assertEqual(times(p, n, [], f), answer)

    def test_both(self):
        for p, n in SPACES:
            with self.subTest(p=p, n=n):
                self.assertEqual(times(p, n, [], []), [0])

    def test_degree_12_and_no_terms(self):
        for p, n in SPACES:
            with self.subTest(p=p, n=n):
                self.assertEqual(times(p, n, term_of_degree(n, 12), []), [0])
                self.assertEqual(times(p, n, [], term_of_degree(n, 12)), [0])


class LikeTerms(unittest.TestCase):
    def test_like_terms_are_one(self):
        self.assertEqual(times(5, 1, [1, 0, 1, 1], [1, 0, 1, 1]), [3, 1, 0, 2, 1, 1, 2])
        self.assertEqual(times(5, 1, [1, 0, 1, 1], [4, 0, 3, 1]), [3, 4, 0, 2, 1, 3, 2])
        self.assertEqual(times(3, 2, [1, 0, 1, 1, 1, 0], [1, 0, 1, 1, 1, 0]), [3, 1, 0, 2, 2, 1, 1, 1, 2, 0])
        self.assertEqual(
            times(7, 3, [3, 0, 0, 1, 2, 0, 1, 0], [5, 0, 0, 1, 6, 0, 1, 0]),
            [2, 1, 0, 0, 2, 5, 0, 2, 0])

    def test_like_terms_fall_away(self):
        self.assertEqual(times(2, 1, [1, 0, 1, 1], [1, 0, 1, 1]), [2, 1, 0, 1, 2])
        self.assertEqual(times(5, 1, [1, 0, 1, 1], [1, 0, 4, 1]), [2, 1, 0, 4, 2])
        self.assertEqual(times(5, 2, [1, 0, 1, 1, 1, 0], [4, 0, 1, 1, 1, 0]), [2, 4, 0, 2, 1, 2, 0])
        self.assertEqual(
            times(3, 3, [1, 0, 0, 1, 2, 1, 0, 0], [1, 0, 0, 1, 1, 1, 0, 0]), [2, 1, 0, 0, 2, 2, 2, 0, 0])

    def test_three_like_terms(self):
        whole = [1, 0, 1, 1, 1, 2]
        self.assertEqual(times(3, 1, whole, whole), [4, 1, 0, 2, 1, 2, 3, 1, 4])
        self.assertEqual(times(2, 1, whole, whole), [3, 1, 0, 1, 2, 1, 4])
        self.assertEqual(times(7, 1, whole, whole), [5, 1, 0, 2, 1, 3, 2, 2, 3, 1, 4])

    def test_all_between_fall_away(self):
        # 1 - x1, times all powers below 12 of x1.
        for p in PRIMES:
            powers = [number for often in range(12) for number in (1, often)]
            with self.subTest(p=p):
                self.assertEqual(times(p, 1, [1, 0, p - 1, 1], powers), [2, 1, 0, p - 1, 12])

    def test_p_times_the_same(self):
        # The p-th power of a sum is the sum of the p-th powers.
        for p, n in SPACES:
            f = [1] + [0] * n + [1] + [0] * (n - 1) + [1]
            row = one(n)
            for turn in range(p):
                row = times(p, n, row, f)[1:]
            with self.subTest(p=p, n=n):
                self.assertEqual(row, one(n) + [1] + [0] * (n - 1) + [p])

    def test_the_same_list_twice(self):
        for p, n in SPACES:
            for f in made_rows(p, n):
                if greatest_degree(n, f) <= 6:
                    with self.subTest(p=p, n=n, f=f):
                        self.assertEqual(times(p, n, f, f), multiplied(p, n, list(f), list(f)))

    def test_terms_alike_only_when_reduced_stay_two(self):
        for p, n in SPACES:
            rest = [0] * (n - 1)
            f = [p - 1, 1] + rest + [1, p] + rest
            with self.subTest(p=p, n=n):
                self.assertEqual(times(p, n, f, one(n)), counted(n, f))
                self.assertEqual(
                    times(p, n, f, [1, 1] + rest), [2, p - 1, 2] + rest + [1, p + 1] + rest)


class Order(unittest.TestCase):
    def test_by_the_degree(self):
        self.assertEqual(times(5, 1, [1, 0, 1, 5], [1, 1, 1, 3]), [4, 1, 1, 1, 3, 1, 6, 1, 8])

    def test_by_the_first_unknown(self):
        self.assertEqual(
            times(5, 2, [1, 1, 0, 1, 0, 2], [1, 0, 1, 1, 1, 0]),
            [4, 1, 1, 1, 1, 2, 0, 1, 0, 3, 1, 1, 2])

    def test_by_the_second_unknown(self):
        self.assertEqual(
            times(5, 3, [1, 0, 0, 1, 2, 0, 1, 0], [1, 1, 0, 0, 3, 0, 0, 2]),
            [4, 1, 1, 0, 1, 2, 1, 1, 0, 3, 0, 0, 3, 1, 0, 1, 2])

    def test_by_number_not_by_sign(self):
        self.assertEqual(times(5, 1, [1, 0, 1, 1], [1, 9]), [2, 1, 9, 1, 10])
        self.assertEqual(times(5, 2, [1, 0, 1, 1, 1, 0], [1, 9, 2]), [2, 1, 9, 3, 1, 10, 2])


class Degrees(unittest.TestCase):
    def test_just_12(self):
        for p, n in SPACES:
            for count in range(13):
                f = term_of_degree(n, count)
                g = term_of_degree(n, 12 - count, p - 1)
                with self.subTest(p=p, n=n, count=count):
                    self.assertEqual(times(p, n, f, g), multiplied(p, n, f, g))
                    self.assertEqual(greatest_degree(n, times(p, n, f, g)[1:]), 12)

    def test_just_13(self):
        for p, n in SPACES:
            for count in range(13):
                if n > 1 or count > 0:
                    f = term_of_degree(n, count)
                    g = term_of_degree(n, 13 - count)
                    with self.subTest(p=p, n=n, count=count):
                        self.assertEqual(times(p, n, f, g), [-28])
                        self.assertEqual(times(p, n, g, f), [-28])

    def test_13_by_several_unknowns(self):
        self.assertEqual(times(5, 2, [1, 3, 3], [1, 3, 3]), [1, 1, 6, 6])
        self.assertEqual(times(5, 2, [1, 3, 3], [1, 4, 3]), [-28])
        self.assertEqual(times(5, 3, [1, 2, 2, 2], [1, 2, 2, 2]), [1, 1, 4, 4, 4])
        self.assertEqual(times(5, 3, [1, 2, 2, 2], [1, 2, 2, 3]), [-28])
        self.assertEqual(times(5, 3, [1, 0, 0, 7], [1, 6, 0, 0]), [-28])

    def test_the_degree_is_that_of_the_greatest_term(self):
        low = [1, 0, 0, 1, 0, 1]
        self.assertEqual(times(5, 2, low + [1, 3, 3], low + [1, 3, 4]), [-28])
        self.assertEqual(times(5, 2, low + [1, 3, 3], low), multiplied(5, 2, low + [1, 3, 3], low))
        self.assertEqual(times(5, 2, low + [1, 0, 12], low), [-28])
        self.assertEqual(times(5, 2, low + [1, 0, 12], [1, 0, 0]), [3] + low + [1, 0, 12])

    def test_one_of_both_has_degree_0(self):
        for p in PRIMES:
            for n in (2, 3):
                for count in (13, 14, 24, 12 * n):
                    for other in ([], one(n), [p - 1] + [0] * n):
                        with self.subTest(p=p, n=n, count=count, other=other):
                            self.assertEqual(times(p, n, term_of_degree(n, count), other), [-28])
                            self.assertEqual(times(p, n, other, term_of_degree(n, count)), [-28])

    def test_the_degree_is_not_that_of_the_reduced_one(self):
        for p in PRIMES:
            with self.subTest(p=p):
                self.assertEqual(times(p, 1, [1, 7], [1, 6]), [-28])
                self.assertEqual(times(p, 2, nought_row(p, 2, 12 - p + 1), [1, 0, 1]), [-28])

    def test_as_high_as_may_be(self):
        for p, n in SPACES:
            with self.subTest(p=p, n=n):
                self.assertEqual(times(p, n, [1] + [12] * n, [1] + [12] * n), [-28])
                self.assertEqual(times(p, n, [1] + [12] * n, one(n)), [-28] if n > 1 else [1, 1, 12])


class WhatHolds(unittest.TestCase):
    def test_the_product_of_both_values_at_every_point(self):
        for p, n in SPACES:
            for f, g in low_pairs(p, n)[-12:]:
                row = times(p, n, f, g)[1:]
                if len(row) <= 400:
                    for x in range(p ** n):
                        total = value(p, n, x, f)[0] * value(p, n, x, g)[0] % p
                        self.assertEqual(value(p, n, x, row), [total], (p, n, x, f, g))

    def test_the_product_of_both_values_for_all_pairs(self):
        for p, n in SPACES:
            for f, g in low_pairs(p, n):
                total = [a * b % p for a, b in zip(reckoned(p, n, f), reckoned(p, n, g))]
                with self.subTest(p=p, n=n, f=f, g=g):
                    self.assertEqual(reckoned(p, n, times(p, n, f, g)[1:]), total)

    def test_the_row_is_a_polynomial(self):
        for p, n in SPACES:
            for f, g in low_pairs(p, n):
                with self.subTest(p=p, n=n, f=f, g=g):
                    answer = times(p, n, f, g)
                    self.assertTrue(answer == counted(n, answer[1:]))
                    self.assertTrue(is_as_told(p, n, answer[1:]))

    def test_the_row_can_be_handed_in_again(self):
        for p, n in SPACES:
            for f, g in low_pairs(p, n):
                answer = times(p, n, f, g)
                if len(answer) <= 401:
                    with self.subTest(p=p, n=n, f=f, g=g):
                        self.assertEqual(times(p, n, answer[1:], one(n)), answer)
                        self.assertEqual(plus(p, n, answer[1:], []), answer)
                        self.assertNotEqual(reduced(p, n, answer[1:]), [-22])

    def test_0_where_one_of_both_is_0(self):
        for p, n in SPACES:
            for f, g in low_pairs(p, n)[-12:]:
                row = times(p, n, f, g)[1:]
                if len(row) <= 400:
                    with self.subTest(p=p, n=n, f=f, g=g):
                        found = sorted(set(zeros(p, n, f)[1:]) | set(zeros(p, n, g)[1:]))
                        self.assertEqual(zeros(p, n, row), [len(found)] + found)

    def test_times_a_sum(self):
        for p, n in SPACES:
            terms = [often for often in all_terms(n) if sum(often) <= 4]
            f = row_of(p, terms[::2][:9])
            g = row_of(p, terms[1::3][:9])
            h = row_of(p, terms[::3][:9])
            with self.subTest(p=p, n=n):
                self.assertEqual(
                    times(p, n, f, plus(p, n, g, h)[1:]),
                    plus(p, n, times(p, n, f, g)[1:], times(p, n, f, h)[1:]))

    def test_three_of_them(self):
        for p, n in SPACES:
            terms = [often for often in all_terms(n) if sum(often) <= 4]
            f = row_of(p, terms[::2][:5])
            g = row_of(p, terms[1::3][:5])
            h = row_of(p, terms[-4:])
            with self.subTest(p=p, n=n):
                self.assertEqual(
                    times(p, n, f, times(p, n, g, h)[1:]), times(p, n, times(p, n, f, g)[1:], h))

    def test_twice_is_times_2(self):
        for p, n in SPACES:
            if p > 2:
                for f, g in low_pairs(p, n):
                    if len(f) > 0:
                        self.assertEqual(times(p, n, f, [2] + [0] * n), plus(p, n, f, f))

    def test_nought_times_anything_is_nought(self):
        for p, n in SPACES:
            for f, g in low_pairs(p, n)[-12:]:
                if greatest_degree(n, f) + p <= 12:
                    row = times(p, n, f, nought_row(p, n))[1:]
                    with self.subTest(p=p, n=n, f=f):
                        self.assertEqual(reduced(p, n, row), [0])


class Corners(unittest.TestCase):
    def test_a_term_that_is_1(self):
        for p, n in SPACES:
            for f, g in low_pairs(p, n):
                with self.subTest(p=p, n=n, f=f):
                    self.assertEqual(times(p, n, f, one(n)), counted(n, f))
                    self.assertEqual(times(p, n, one(n), f), counted(n, f))
            self.assertEqual(times(p, n, one(n), one(n)), [1] + one(n))

    def test_times_minus_1(self):
        for p, n in SPACES:
            for f, g in low_pairs(p, n):
                with self.subTest(p=p, n=n, f=f):
                    self.assertEqual(times(p, n, f, [p - 1] + [0] * n), counted(n, opposite(p, n, f)))

    def test_p_of_2(self):
        self.assertEqual(times(2, 1, [1, 1], [1, 1]), [1, 1, 2])
        self.assertEqual(times(2, 2, [1, 0, 1, 1, 1, 0], [1, 0, 1, 1, 1, 0]), [2, 1, 0, 2, 1, 2, 0])
        self.assertEqual(times(2, 3, [1, 0, 0, 0, 1, 4, 0, 0], [1, 4, 4, 0]), [2, 1, 4, 4, 0, 1, 8, 4, 0])

    def test_powers_above_p_stay(self):
        for p in PRIMES:
            for first in range(13):
                for second in range(13 - first):
                    with self.subTest(p=p, first=first, second=second):
                        self.assertEqual(times(p, 1, [1, first], [1, second]), [1, 1, first + second])


class AsLongAsMayBe(unittest.TestCase):
    def test_400_numbers_each_are_of_too_high_a_degree(self):
        for p in PRIMES:
            low = row_of(p, all_terms(3)[:100])
            with self.subTest(p=p):
                self.assertEqual(times(p, 3, low, low), [-28])
                self.assertEqual(times(p, 3, low, row_of(p, all_terms(3)[-100:])), [-28])

    def test_400_numbers_and_as_many_as_the_degree_allows(self):
        for p in PRIMES:
            f = row_of(p, all_terms(3)[:100])
            g = row_of(p, [often for often in all_terms(3) if sum(often) <= 5])
            with self.subTest(p=p):
                self.assertTrue(times(p, 3, f, g) == multiplied(p, 3, f, g))

    def test_all_terms_of_degree_6_each_within_seconds(self):
        terms = [often for often in all_terms(3) if sum(often) <= 6]
        f = row_of(7, terms)
        g = [1 if k % 4 == 0 else number for k, number in enumerate(f)]
        begin = time.process_time()
        answer = times(7, 3, f, g)
        self.assertLess(time.process_time() - begin, 10)
        self.assertTrue(answer == multiplied(7, 3, f, g))
        self.assertGreater(len(answer), 401)

    def test_as_long_as_may_be_with_two_unknowns(self):
        for p in PRIMES:
            f = row_of(p, [often for often in all_terms(2) if sum(often) <= 12])
            with self.subTest(p=p):
                self.assertEqual(times(p, 2, f, [p - 1, 0, 0]), multiplied(p, 2, f, [p - 1, 0, 0]))
                self.assertEqual(times(p, 2, f, [1, 0, 1]), [-28])


class Refusals(unittest.TestCase):
    def test_no_such_space(self):
        rows = ([], [1, 0], [1, 0, 0], [1, 0, 0, 0], [1, 0, 0, 0, 0], [1] * 400)
        for p, n in NO_SPACES:
            for f, g in product(rows, repeat=2):
                with self.subTest(p=p, n=n, f=f, g=g):
                    self.assertEqual(times(p, n, f, g), [-22])

    def test_by_f_alone(self):
        for name, p, n, wrong in NO_POLYNOMIALS:
            for right in ([], one(n), nought_row(p, n)):
                with self.subTest(name, right=right):
                    self.assertEqual(times(p, n, wrong, right), [-22])

    def test_by_g_alone(self):
        for name, p, n, wrong in NO_POLYNOMIALS:
            for right in ([], one(n), nought_row(p, n)):
                with self.subTest(name, right=right):
                    self.assertEqual(times(p, n, right, wrong), [-22])

    def test_by_both(self):
        for name, p, n, wrong in NO_POLYNOMIALS:
            with self.subTest(name):
                self.assertEqual(times(p, n, wrong, wrong), [-22])

    def test_no_polynomial_and_too_high_a_degree(self):
        for name, p, n, wrong in NO_POLYNOMIALS:
            high = [1] + [12] * n
            with self.subTest(name):
                self.assertEqual(times(p, n, wrong, high), [-22])
                self.assertEqual(times(p, n, high, wrong), [-22])

    def test_both_due_where_the_wrong_row_is_of_a_high_degree(self):
        self.assertEqual(times(5, 2, [1, 12, 12, 1, 0, 0], [1, 12, 12]), [-22])
        self.assertEqual(times(5, 2, [1, 12, 12], [5, 12, 12]), [-22])
        self.assertEqual(times(5, 2, [0, 12, 12], [1, 12, 12]), [-22])
        self.assertEqual(times(5, 1, [1, 13], []), [-22])
        self.assertEqual(times(4, 2, [1, 12, 12], [1, 12, 12]), [-22])
        self.assertEqual(times(5, 4, [1, 12, 12, 12, 12], [1, 12, 12, 12, 12]), [-22])

    def test_two_halves_make_no_whole(self):
        self.assertEqual(times(5, 2, [1, 0], [0, 1, 0, 1]), [-22])
        self.assertEqual(times(5, 1, [1], [0]), [-22])

    def test_greatest_numbers(self):
        whole = [GREATEST] * 400
        self.assertEqual(times(7, 3, whole, whole), [-22])
        self.assertEqual(times(GREATEST, GREATEST, whole, whole), [-22])
        self.assertEqual(times(7, 3, row_of(7, all_terms(3)[:100]), whole), [-22])
        self.assertEqual(times(7, 3, whole, row_of(7, all_terms(3)[:100])), [-22])
        self.assertEqual(times(7, 3, [], [GREATEST, 0, 0, 0]), [-22])


if __name__ == "__main__":
    unittest.main()
