"""least: the least degree of a set of points, then the row of its polynomial, and its refusals."""

import time
import unittest
from itertools import combinations, product

from noughtsets.polynomials import least, plus, reduced, times, value, zeros
from tests.samples import (
    GREATEST, NO_SETS, NO_SPACES, PRIMES, SPACES,
    counted, greatest_degree, is_as_told, least_reckoned, low_unknowns, made_sets, points, powers, reckoned,
)

# p, n, the set, the answer.
BY_HAND = [
    (2, 1, [1], [1, 1, 0, 1, 1]),
    (2, 2, [1, 2], [1, 1, 0, 0, 1, 0, 1, 1, 1, 0]),
    (2, 2, [0, 1, 2], [2, 1, 1, 1]),
    (2, 3, [3, 5, 6], [1, 1, 0, 0, 1, 1, 0, 1, 0, 1, 1, 0, 0]),
    (2, 3, [0, 1, 2, 4], [2, 1, 0, 1, 1]),
    (2, 3, [0, 1, 2, 3, 4, 5, 6], [3, 1, 1, 1, 1]),
    (3, 1, [0, 2], [2, 1, 1, 1, 2]),
    (3, 1, [1, 2], [2, 2, 0, 1, 2]),
    (3, 2, [0, 4, 8], [1, 2, 0, 1, 1, 1, 0]),
    (3, 2, [0, 1, 3, 6], [2, 1, 1, 1]),
    (3, 3, [0, 13, 26], [1, 2, 0, 0, 1, 1, 0, 1, 0]),
    (5, 1, [1, 2, 3, 4], [4, 4, 0, 1, 4]),
    (5, 1, [2, 3], [2, 1, 0, 1, 2]),
    (5, 2, [6, 8, 16, 18], [2, 3, 0, 0, 1, 0, 1, 1, 0, 2]),
    (5, 3, [1, 5, 25], [1, 4, 0, 0, 0, 1, 0, 0, 1, 1, 0, 1, 0, 1, 1, 0, 0]),
    (7, 1, [1, 2, 4], [3, 6, 0, 1, 3]),
    (7, 2, [3, 12, 14], [1, 4, 0, 0, 5, 0, 1, 1, 1, 0]),
    (7, 3, [0, 1], [1, 1, 0, 0, 1]),
    (7, 3, [1, 8], [1, 1, 0, 0, 1]),
    (7, 3, [49, 98], [1, 1, 0, 1, 0]),
]


def one(n):
    """The row of the term 1."""
    return [1] + [0] * n


def number_of(p, point):
    """A point's number."""
    return sum(number * p ** k for k, number in enumerate(point))


def set_where(p, n, holds):
    """All points whose numbers hold what's asked, as a set."""
    return [x for x, point in enumerate(points(p, n)) if holds(point)]


def terms_row(factors, unknowns):
    """The row of these terms, those with factor 0 left out."""
    row = []
    for factor, often in zip(factors, unknowns):
        if factor:
            row.extend((factor,) + tuple(often))
    return row


def parts_multiplied(p, numbers):
    """The factors of the product of x1 - a for all a, by how often x1 stands there."""
    factors = [1]
    for a in numbers:
        up = [0] + factors
        down = [a * factor for factor in factors] + [0]
        factors = [(b - c) % p for b, c in zip(up, down)]
    return factors


def all_but(p, n, point):
    """The answer for all points but one: in each unknown, x - a to the power of p - 1, less 1, multiplied."""
    single = []
    for a in point:
        # x - a to the power of p - 1 is what x^k a^(p - 1 - k) come to for all k from 0 to p - 1.
        factors = [a ** (p - 1 - k) % p for k in range(p)]
        factors[0] -= 1
        single.append(factors)
    unknowns = low_unknowns(p, n)
    factors = []
    for often in unknowns:
        factor = 1
        for k in range(n):
            factor *= single[k][often[k]]
        factors.append(factor % p)
    return [n * (p - 1)] + terms_row(factors, unknowns)


def best_by_trying(p, n):
    """For each set as a mask, the polynomial with the lowest last term, by trying all with last factor 1."""
    unknowns = low_unknowns(p, n)
    every = points(p, n)
    table = [[powers(point, often) % p for point in every] for often in unknowns]
    best = {}
    for last in range(len(unknowns)):
        for before in product(range(p), repeat=last):
            factors = before + (1,)
            values = [0] * len(every)
            for factor, line in zip(factors, table):
                values = [a + factor * b for a, b in zip(values, line)]
            mask = sum(1 << x for x, number in enumerate(values) if number % p == 0)
            best.setdefault(mask, (last, factors))
    # What is 0 on a set is 0 on each smaller one too.
    for x in range(len(every)):
        for mask in range(1 << len(every)):
            if not mask >> x & 1 and mask | 1 << x in best:
                best[mask] = min(best.get(mask, (len(unknowns), ())), best[mask | 1 << x])
    return best, unknowns


class Ordinary(unittest.TestCase):
    def test_by_hand(self):
        for p, n, s, answer in BY_HAND:
            with self.subTest(p=p, n=n, s=s):
                self.assertEqual(least(p, n, s), answer)

    def test_by_hand_is_0_on_the_set(self):
        for p, n, s, answer in BY_HAND:
            values = reckoned(p, n, answer[1:])
            self.assertEqual([values[x] for x in s], [0] * len(s))

    def test_every_space_by_hand(self):
        self.assertEqual(sorted({(p, n) for p, n, s, answer in BY_HAND}), SPACES)

    def test_made_sets(self):
        for p, n in SPACES:
            for s in made_sets(p, n, 40 if p ** n > 200 else 130):
                with self.subTest(p=p, n=n, s=s):
                    self.assertEqual(least(p, n, s), least_reckoned(p, n, s))

    def test_one_unknown_every_set(self):
        # x1 - a for all points a, multiplied.
        for p in PRIMES:
            for count in range(p):
                for s in combinations(range(p), count):
                    row = terms_row(parts_multiplied(p, s), [(k,) for k in range(count + 1)])
                    self.assertEqual(least(p, 1, list(s)), [count] + row)

    def test_whole_numbers_in_a_list(self):
        for s in ([], [0], [1, 2], [0, 1, 2, 4]):
            answer = least(5, 1, s)
            self.assertIs(type(answer), list)
            self.assertEqual({type(number) for number in answer}, {int})


class AnotherWay(unittest.TestCase):
    def test_every_set_of_small_spaces(self):
        for p, n in ((2, 1), (2, 2), (2, 3), (3, 1), (3, 2), (5, 1)):
            best, unknowns = best_by_trying(p, n)
            whole = (1 << p ** n) - 1
            self.assertNotIn(whole, best)
            for mask in range(whole):
                s = [x for x in range(p ** n) if mask >> x & 1]
                last, factors = best[mask]
                answer = [sum(unknowns[last])] + terms_row(factors, unknowns)
                self.assertEqual(least(p, n, s), answer, (p, n, s))

    def test_none_of_a_lesser_degree_is_0_on_the_set(self):
        for p, n in ((2, 1), (2, 2), (2, 3), (3, 1), (3, 2)):
            unknowns = low_unknowns(p, n)
            lowest = {}
            for factors in product(range(p), repeat=len(unknowns)):
                row = terms_row(factors, unknowns)
                if row:
                    nought = frozenset(x for x, number in enumerate(reckoned(p, n, row)) if number == 0)
                    lowest[nought] = min(lowest.get(nought, GREATEST), greatest_degree(n, row))
            for mask in range((1 << p ** n) - 1):
                s = {x for x in range(p ** n) if mask >> x & 1}
                found = min(degree for nought, degree in lowest.items() if s <= nought)
                self.assertEqual(least(p, n, sorted(s))[0], found, (p, n, s))

    def test_fewer_points_than_terms_of_a_degree(self):
        for p, n in SPACES:
            degrees = [sum(often) for often in low_unknowns(p, n)]
            for s in made_sets(p, n):
                found = least(p, n, s)[0]
                for d in range(n * (p - 1) + 1):
                    if len(s) < len([degree for degree in degrees if degree <= d]):
                        self.assertLessEqual(found, d, (p, n, s))

    def test_fewer_points_every_set(self):
        for p, n in ((2, 1), (2, 2), (2, 3), (3, 1), (3, 2)):
            degrees = [sum(often) for often in low_unknowns(p, n)]
            for mask in range((1 << p ** n) - 1):
                s = [x for x in range(p ** n) if mask >> x & 1]
                enough = min(d for d in degrees if len([degree for degree in degrees if degree <= d]) > len(s))
                self.assertLessEqual(least(p, n, s)[0], enough, (p, n, s))


class AgainstTheOthers(unittest.TestCase):
    def test_0_at_every_point_of_the_set(self):
        for p, n in SPACES:
            for s in made_sets(p, n, 99):
                row = least(p, n, s)[1:]
                if len(row) <= 400:
                    for x in s:
                        self.assertEqual(value(p, n, x, row), [0], (p, n, s, x))

    def test_the_set_is_among_its_zeros(self):
        for p, n in SPACES:
            for s in made_sets(p, n, 60):
                row = least(p, n, s)[1:]
                if len(row) <= 400:
                    with self.subTest(p=p, n=n, s=s):
                        self.assertEqual(set(s) - set(zeros(p, n, row)[1:]), set())

    def test_all_its_zeros_have_the_same_polynomial(self):
        for p, n in SPACES:
            for s in made_sets(p, n, 60):
                answer = least(p, n, s)
                if len(answer) <= 401:
                    with self.subTest(p=p, n=n, s=s):
                        self.assertEqual(least(p, n, zeros(p, n, answer[1:])[1:]), answer)

    def test_reduced_with_its_degree_and_last_factor_1(self):
        for p, n in SPACES:
            for s in made_sets(p, n):
                answer = least(p, n, s)
                row = answer[1:]
                with self.subTest(p=p, n=n, s=s):
                    self.assertTrue(is_as_told(p, n, row))
                    self.assertEqual(answer[0], greatest_degree(n, row))
                    self.assertEqual(answer[0], sum(row[-n:]))
                    self.assertEqual(row[-n - 1], 1)
                    if len(row) <= 400:
                        self.assertEqual(reduced(p, n, row), counted(n, row))

    def test_the_row_can_be_handed_in_again(self):
        for p, n in SPACES:
            for s in made_sets(p, n):
                row = least(p, n, s)[1:]
                if len(row) <= 400:
                    with self.subTest(p=p, n=n, s=s):
                        self.assertEqual(plus(p, n, row, []), counted(n, row))
                        if greatest_degree(n, row) <= 12:
                            self.assertEqual(times(p, n, row, one(n)), counted(n, row))

    def test_both_sets_by_both_multiplied(self):
        # What is 0 on one set, times what is 0 on the other, is 0 on both together.
        for p, n in SPACES:
            sets = made_sets(p, n, 25)
            for s, other in zip(sets, sets[3:]):
                together = sorted(set(s) | set(other))
                first = least(p, n, s)
                second = least(p, n, other)
                if len(together) < p ** n and first[0] + second[0] <= 12:
                    with self.subTest(p=p, n=n, s=s, other=other):
                        row = times(p, n, first[1:], second[1:])[1:]
                        values = reckoned(p, n, row)
                        self.assertEqual([values[x] for x in together], [0] * len(together))
                        if any(values):
                            self.assertLessEqual(least(p, n, together)[0], first[0] + second[0])


class FewPoints(unittest.TestCase):
    def test_the_empty_set(self):
        for p, n in SPACES:
            with self.subTest(p=p, n=n):
                self.assertEqual(least(p, n, []), [0, 1] + [0] * n)

    def test_one_point(self):
        # The last unknown less the last number: behind 1, the last unknown is the first term in order.
        for p, n in SPACES:
            for x, point in enumerate(points(p, n)):
                low = [p - point[-1]] + [0] * n if point[-1] else []
                with self.subTest(p=p, n=n, x=x):
                    self.assertEqual(least(p, n, [x]), [1] + low + [1] + [0] * (n - 1) + [1])

    def test_two_points_with_unlike_last_numbers(self):
        # The unknown before the last one is then made up of the last one and 1.
        for p in PRIMES:
            for first, second in product(points(p, 2), repeat=2):
                if first[1] < second[1]:
                    slope = (second[0] - first[0]) * pow(second[1] - first[1], -1, p) % p
                    low = (slope * first[1] - first[0]) % p
                    row = terms_row([low, -slope % p, 1], [(0, 0), (0, 1), (1, 0)])
                    s = [number_of(p, first), number_of(p, second)]
                    self.assertEqual(least(p, 2, s), [1] + row, (p, first, second))

    def test_two_points_with_the_same_last_number(self):
        for p in PRIMES:
            for n in (2, 3):
                for last in range(p):
                    s = [number_of(p, (0,) * (n - 1) + (last,)), number_of(p, (p - 1,) * (n - 1) + (last,))]
                    row = ([p - last] + [0] * n if last else []) + [1] + [0] * (n - 1) + [1]
                    with self.subTest(p=p, n=n, last=last):
                        self.assertEqual(least(p, n, s), [1] + row)

    def test_two_points_in_every_space(self):
        for p, n in SPACES:
            count = p ** n
            for s in ([0, 1], [0, count - 1], [count - 2, count - 1], [1, count // 2 + 1]):
                if count > 2 and s[-1] < count:
                    with self.subTest(p=p, n=n, s=s):
                        self.assertEqual(least(p, n, s), least_reckoned(p, n, s))
                        self.assertEqual(least(p, n, s)[0], 2 if n == 1 else 1)


class ManyPoints(unittest.TestCase):
    def test_all_points_but_one(self):
        for p, n in SPACES:
            every = points(p, n)
            step = 1 if p ** n < 60 else 9 if p < 7 else 171
            for x in sorted(set(range(0, p ** n, step)) | {p ** n - 1}):
                s = [y for y in range(p ** n) if y != x]
                # assertEqual would look for minutes for where long rows differ.
                self.assertTrue(least(p, n, s) == all_but(p, n, every[x]), (p, n, x))

    def test_all_points_but_two(self):
        for p, n in SPACES:
            if p ** n < 130:
                every = list(range(p ** n))
                for s in (every[2:], every[:-2], every[1:-1]):
                    with self.subTest(p=p, n=n, s=s):
                        self.assertEqual(least(p, n, s), least_reckoned(p, n, s))

    def test_all_points(self):
        for p, n in SPACES:
            with self.subTest(p=p, n=n):
                self.assertEqual(least(p, n, list(range(p ** n))), [-33])

    def test_the_largest_space(self):
        for s in (list(range(100)), list(range(1, 343, 3)), [x for x in range(343) if x * x % 11 < 6]):
            with self.subTest(s=s):
                self.assertTrue(least(7, 3, s) == least_reckoned(7, 3, s))

    def test_the_largest_set_within_seconds(self):
        s = [x for x in range(343) if x != 342]
        begin = time.process_time()
        answer = least(7, 3, s)
        self.assertLess(time.process_time() - begin, 20)
        self.assertTrue(answer == all_but(7, 3, (6, 6, 6)))
        self.assertGreater(len(answer), 401)


class Lines(unittest.TestCase):
    def test_all_with_one_last_number(self):
        for p in PRIMES:
            for n in (2, 3):
                for last in range(p):
                    s = set_where(p, n, lambda point: point[-1] == last)
                    row = ([p - last] + [0] * n if last else []) + [1] + [0] * (n - 1) + [1]
                    with self.subTest(p=p, n=n, last=last):
                        self.assertEqual(least(p, n, s), [1] + row)

    def test_all_with_one_first_number(self):
        for p in PRIMES:
            for n in (2, 3):
                for first in range(p):
                    s = set_where(p, n, lambda point: point[0] == first)
                    row = ([p - first] + [0] * n if first else []) + [1, 1] + [0] * (n - 1)
                    with self.subTest(p=p, n=n, first=first):
                        self.assertEqual(least(p, n, s), [1] + row)

    def test_every_sloping_line(self):
        for p in PRIMES:
            for slope, low in product(range(p), repeat=2):
                s = set_where(p, 2, lambda point: point[0] == (slope * point[1] + low) % p)
                row = terms_row([-low % p, -slope % p, 1], [(0, 0), (0, 1), (1, 0)])
                with self.subTest(p=p, slope=slope, low=low):
                    self.assertEqual(least(p, 2, s), [1] + row)

    def test_a_line_without_one_point(self):
        for p in (3, 5, 7):
            s = set_where(p, 2, lambda point: point[0] == (2 * point[1] + 1) % p)
            for x in s:
                with self.subTest(p=p, x=x):
                    self.assertEqual(
                        least(p, 2, [y for y in s if y != x]), [1, p - 1, 0, 0, p - 2, 0, 1, 1, 1, 0])

    def test_a_line_in_space(self):
        for p in PRIMES:
            s = [number_of(p, (k, k, k)) for k in range(p)]
            with self.subTest(p=p):
                self.assertEqual(least(p, 3, s), [1, p - 1, 0, 0, 1, 1, 0, 1, 0])

    def test_two_lines(self):
        # The two axes: the first unknown times the second.
        for p in PRIMES:
            s = set_where(p, 2, lambda point: point[0] == 0 or point[1] == 0)
            with self.subTest(p=p):
                self.assertEqual(least(p, 2, s), [2, 1, 1, 1])

    def test_a_line_and_a_point(self):
        for p in PRIMES:
            s = sorted(set_where(p, 2, lambda point: point[1] == 0) + [number_of(p, (0, 1))])
            with self.subTest(p=p):
                self.assertEqual(
                    least(p, 2, s), [2, 1, 1, 1] if p == 2 else [2, p - 1, 0, 1, 1, 0, 2])


class NoLowDegree(unittest.TestCase):
    def test_points_whose_numbers_come_to_few(self):
        # As many points as terms of degree d at most, and none of these terms is made up of the others there.
        for p, n in SPACES:
            unknowns = low_unknowns(p, n)
            for d in range(n * (p - 1)):
                s = set_where(p, n, lambda point: sum(point) <= d)
                if len(s) < 160:
                    answer = least(p, n, s)
                    first = [often for often in unknowns if sum(often) == d + 1][0]
                    with self.subTest(p=p, n=n, d=d):
                        self.assertEqual(len(s), len([often for often in unknowns if sum(often) <= d]))
                        self.assertEqual(answer[0], d + 1)
                        self.assertEqual(answer[-n - 1:], [1] + list(first))

    def test_one_point_more_and_one_less(self):
        for p in PRIMES:
            s = set_where(p, 2, lambda point: sum(point) <= p - 2)
            with self.subTest(p=p):
                self.assertEqual(least(p, 2, s)[0], p - 1)
                self.assertEqual(least(p, 2, s[:-1])[0], p - 2)
                self.assertEqual(least(p, 2, s + [p ** 2 - 1])[0], p - 1)

    def test_a_square_of_points(self):
        # On all points with numbers below k, the last unknown k times is the first term that's made up of others.
        for p in PRIMES:
            for n in (2, 3):
                for k in range(1, min(p, 5)):
                    s = set_where(p, n, lambda point: max(point) < k)
                    factors = parts_multiplied(p, range(k))
                    row = terms_row(factors, [(0,) * (n - 1) + (often,) for often in range(k + 1)])
                    with self.subTest(p=p, n=n, k=k):
                        self.assertEqual(least(p, n, s), [k] + row)


class FactorsOf0(unittest.TestCase):
    def test_terms_with_factor_0_are_not_in_the_row(self):
        for p, n, s, answer in (
                (3, 1, [0, 2], [2, 1, 1, 1, 2]),
                (5, 1, [1, 4], [2, 4, 0, 1, 2]),
                (5, 1, [0, 1, 4], [3, 4, 1, 1, 3]),
                (7, 1, [0, 1, 2, 4], [4, 6, 1, 1, 4]),
                (7, 1, [1, 2, 3, 4, 5, 6], [6, 6, 0, 1, 6]),
                (5, 2, [0, 1, 5, 6], [2, 4, 0, 1, 1, 0, 2]),
                (7, 3, [0], [1, 1, 0, 0, 1]),
                (7, 3, [7, 14], [1, 1, 0, 0, 1])):
            with self.subTest(p=p, n=n, s=s):
                self.assertEqual(least(p, n, s), answer)

    def test_no_factor_0_in_any_row(self):
        for p, n in SPACES:
            for s in made_sets(p, n, 60):
                row = least(p, n, s)[1:]
                with self.subTest(p=p, n=n, s=s):
                    self.assertEqual([factor for factor in row[::n + 1] if factor not in range(1, p)], [])

    def test_all_points_but_the_first(self):
        # Of x1^(p - 1) - 1, and the same for each unknown, multiplied, only two to the power of n terms aren't 0.
        for p, n in SPACES:
            if p ** n < 130:
                with self.subTest(p=p, n=n):
                    self.assertEqual(len(least(p, n, list(range(1, p ** n)))), 1 + (n + 1) * 2 ** n)


class Corners(unittest.TestCase):
    def test_p_of_2(self):
        self.assertEqual(least(2, 1, []), [0, 1, 0])
        self.assertEqual(least(2, 1, [0]), [1, 1, 1])
        self.assertEqual(least(2, 1, [1]), [1, 1, 0, 1, 1])
        self.assertEqual(least(2, 1, [0, 1]), [-33])
        self.assertEqual(least(2, 2, [0, 3]), [1, 1, 0, 1, 1, 1, 0])
        self.assertEqual(least(2, 2, [1, 2, 3]), [2, 1, 0, 0, 1, 0, 1, 1, 1, 0, 1, 1, 1])

    def test_no_unknown_stands_there_p_times(self):
        for p, n in SPACES:
            for s in made_sets(p, n, 60):
                row = least(p, n, s)[1:]
                for k in range(0, len(row), n + 1):
                    self.assertLess(max(row[k + 1:k + n + 1]), p)


class Refusals(unittest.TestCase):
    def test_no_such_space(self):
        for p, n in NO_SPACES:
            for s in ([], [0], [0, 1], [1, 0], list(range(16)), [GREATEST], [0] * 400, list(range(400))):
                with self.subTest(p=p, n=n, s=s):
                    self.assertEqual(least(p, n, s), [-22])

    def test_no_set(self):
        for name, p, n, s in NO_SETS:
            with self.subTest(name, p=p, n=n):
                self.assertEqual(least(p, n, s), [-22])

    def test_all_points_of_no_space(self):
        self.assertEqual(least(4, 1, [0, 1, 2, 3]), [-22])
        self.assertEqual(least(1, 1, [0]), [-22])
        self.assertEqual(least(2, 0, [0]), [-22])
        self.assertEqual(least(2, 4, list(range(16))), [-22])
        self.assertEqual(least(3, 5, list(range(243))), [-22])

    def test_as_many_numbers_as_points_but_not_all_of_them(self):
        for p, n in SPACES:
            whole = list(range(p ** n))
            with self.subTest(p=p, n=n):
                self.assertEqual(least(p, n, whole[:-1] + [p ** n]), [-22])
                self.assertEqual(least(p, n, whole[:-1] + [0]), [-22])
                self.assertEqual(least(p, n, whole[1:] + [0]), [-22])
                self.assertEqual(least(p, n, list(reversed(whole))), [-22])
                self.assertEqual(least(p, n, whole + whole[-1:]), [-22])

    def test_the_last_point_and_the_one_behind_it(self):
        for p, n in SPACES:
            with self.subTest(p=p, n=n):
                self.assertEqual(least(p, n, [p ** n - 1])[0], 1)
                self.assertEqual(least(p, n, [p ** n]), [-22])


if __name__ == "__main__":
    unittest.main()
