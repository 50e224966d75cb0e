"""What holds over the whole program: several calls together, the corners, and each refusal in each call."""

import unittest
from itertools import product

from noughtsets.polynomials import least, plus, reduced, room, times, value, zeros
from tests.samples import (
    GREATEST, NO_POLYNOMIALS, NO_SETS, NO_SPACES, PRIMES, SPACES,
    all_terms, counted, greatest_degree, low_pairs, low_unknowns, made_pairs, made_rows, made_sets, nought_row,
    opposite, row_of, short_pairs,
)

SMALL = ((2, 1), (2, 2), (2, 3), (3, 1), (3, 2))


def values(p, n, f):
    """The values at all points, by value alone."""
    return [value(p, n, x, f)[0] for x in range(p ** n)]


def rows_of(p, unknowns):
    """Every polynomial with no other terms than these, given without factors and in their order."""
    for factors in product(range(p), repeat=len(unknowns)):
        row = []
        for factor, often in zip(factors, unknowns):
            if factor:
                row.extend((factor,) + often)
        yield row


def sets_of(p, n):
    """Every set of points but that of all points."""
    for mask in range((1 << p ** n) - 1):
        yield [x for x in range(p ** n) if mask >> x & 1]


class AddedAndMultiplied(unittest.TestCase):
    def test_every_small_pair(self):
        for p, n, most in ((2, 1, 3), (2, 2, 1), (2, 3, 1), (3, 1, 2), (3, 2, 1)):
            rows = list(rows_of(p, [often for often in all_terms(n) if sum(often) <= most]))
            told = [values(p, n, f) for f in rows]
            for (f, first), (g, second) in product(zip(rows, told), repeat=2):
                together = [(a + b) % p for a, b in zip(first, second)]
                product_of_both = [a * b % p for a, b in zip(first, second)]
                self.assertEqual(values(p, n, plus(p, n, f, g)[1:]), together, (p, n, f, g))
                self.assertEqual(values(p, n, times(p, n, f, g)[1:]), product_of_both, (p, n, f, g))

    def test_added_in_every_space(self):
        for p, n in SPACES:
            for f, g in short_pairs(p, n)[::3]:
                together = [(a + b) % p for a, b in zip(values(p, n, f), values(p, n, g))]
                self.assertEqual(values(p, n, plus(p, n, f, g)[1:]), together, (p, n, f, g))

    def test_multiplied_in_every_space(self):
        for p, n in SPACES:
            found = 0
            for f, g in low_pairs(p, n)[::2]:
                row = times(p, n, f, g)[1:]
                if len(row) <= 400:
                    product_of_both = [a * b % p for a, b in zip(values(p, n, f), values(p, n, g))]
                    self.assertEqual(values(p, n, row), product_of_both, (p, n, f, g))
                    found += len(row) > 0
            self.assertGreater(found, 2)

    def test_reduced_before_or_behind(self):
        for p, n in SPACES:
            for f, g in low_pairs(p, n)[:12]:
                low_f = reduced(p, n, f)[1:]
                low_g = reduced(p, n, g)[1:]
                for call in (plus, times):
                    row = call(p, n, f, g)[1:]
                    low_row = call(p, n, low_f, low_g)[1:]
                    if len(row) <= 400 and len(low_row) <= 400:
                        with self.subTest(p=p, n=n, f=f, g=g, call=call):
                            self.assertEqual(reduced(p, n, row), reduced(p, n, low_row))


class Reduced(unittest.TestCase):
    def test_the_same_at_every_point(self):
        for p, n in SPACES:
            for f in made_rows(p, n)[::2]:
                self.assertEqual(values(p, n, reduced(p, n, f)[1:]), values(p, n, f), (p, n, f))
                self.assertEqual(zeros(p, n, reduced(p, n, f)[1:]), zeros(p, n, f), (p, n, f))

    def test_no_terms_where_it_is_0_everywhere(self):
        for p, n in SPACES:
            for f, g in low_pairs(p, n):
                if greatest_degree(n, f) + p > 12 or len(f) > 40:
                    continue
                row = times(p, n, f, nought_row(p, n))[1:]
                with self.subTest(p=p, n=n, f=f):
                    self.assertEqual(zeros(p, n, row), [p ** n] + list(range(p ** n)))
                    self.assertEqual(reduced(p, n, row), [0])

    def test_terms_where_it_is_not_0_everywhere(self):
        for p, n in SPACES:
            for f in made_rows(p, n):
                with self.subTest(p=p, n=n, f=f):
                    self.assertEqual(reduced(p, n, f) == [0], zeros(p, n, f)[0] == p ** n)

    def test_what_is_the_same_everywhere_is_the_same_reduced(self):
        for p, n in SPACES:
            for f, g in short_pairs(p, n)[::3]:
                minus = plus(p, n, f, opposite(p, n, g))[1:]
                with self.subTest(p=p, n=n, f=f, g=g):
                    self.assertEqual(reduced(p, n, f) == reduced(p, n, g), zeros(p, n, minus)[0] == p ** n)

    def test_as_many_as_there_are_ways_to_choose_values(self):
        for p, n in ((2, 1), (2, 2), (2, 3), (3, 1)):
            told = {tuple(values(p, n, f)) for f in rows_of(p, low_unknowns(p, n))}
            self.assertEqual(len(told), p ** p ** n)


class FewZeros(unittest.TestCase):
    def test_in_every_space(self):
        for p, n in SPACES:
            rows = made_rows(p, n) + [plus(p, n, f, g)[1:] for f, g in short_pairs(p, n)]
            rows += [least(p, n, s)[1:] for s in made_sets(p, n, 30)]
            for f in rows:
                row = reduced(p, n, f)[1:]
                if row:
                    with self.subTest(p=p, n=n, f=f):
                        self.assertLessEqual(zeros(p, n, row)[0], greatest_degree(n, row) * p ** (n - 1))

    def test_every_small_one(self):
        for p, n in SMALL:
            for row in rows_of(p, low_unknowns(p, n)):
                if row:
                    most = greatest_degree(n, row) * p ** (n - 1)
                    self.assertLessEqual(zeros(p, n, row)[0], most, (p, n, row))

    def test_as_many_as_may_be(self):
        # x1 - a for d numbers a, multiplied, is 0 at just so many points.
        for p, n in SPACES:
            row = [1] + [0] * n
            for d in range(1, p):
                rest = [0] * (n - 1)
                row = times(p, n, row, [p - d, 0] + rest + [1, 1] + rest)[1:]
                with self.subTest(p=p, n=n, d=d):
                    self.assertEqual(reduced(p, n, row), counted(n, row))
                    self.assertEqual(zeros(p, n, row)[0], d * p ** (n - 1))


class LeastDegree(unittest.TestCase):
    def test_none_of_a_lesser_degree(self):
        for p, n in SMALL:
            lowest = {}
            for row in rows_of(p, low_unknowns(p, n)):
                if row:
                    nought = frozenset(zeros(p, n, row)[1:])
                    lowest[nought] = min(lowest.get(nought, GREATEST), greatest_degree(n, row))
            for s in sets_of(p, n):
                found = min(degree for nought, degree in lowest.items() if nought.issuperset(s))
                self.assertEqual(least(p, n, s)[0], found, (p, n, s))

    def test_as_many_of_a_degree_as_there_is_room(self):
        for p, n in ((2, 1), (2, 2), (2, 3), (3, 1)):
            degrees = [greatest_degree(n, row) for row in rows_of(p, low_unknowns(p, n))]
            for d in range(n * (p - 1) + 2):
                with self.subTest(p=p, n=n, d=d):
                    self.assertEqual(len([degree for degree in degrees if degree <= d]), p ** room(p, n, d)[0])

    def test_0_on_the_set(self):
        for p, n in SPACES:
            for s in made_sets(p, n, 60):
                row = least(p, n, s)[1:]
                if len(row) <= 400:
                    found = set(zeros(p, n, row)[1:])
                    with self.subTest(p=p, n=n, s=s):
                        self.assertEqual([x for x in s if x not in found], [])

    def test_no_higher_for_fewer_points(self):
        for p, n in SPACES:
            for s in made_sets(p, n, 60):
                if s:
                    with self.subTest(p=p, n=n, s=s):
                        self.assertLessEqual(least(p, n, s[1:])[0], least(p, n, s)[0])
                        self.assertLessEqual(least(p, n, s[:-1])[0], least(p, n, s)[0])

    def test_no_lower_than_what_has_so_many_zeros(self):
        # A reduced one of degree d is 0 at no more than d p^(n - 1) points.
        for p, n in SPACES:
            for s in made_sets(p, n):
                with self.subTest(p=p, n=n, s=s):
                    self.assertGreaterEqual(least(p, n, s)[0] * p ** (n - 1), len(s))


class FewerPointsThanRoom(unittest.TestCase):
    def test_every_set_of_small_spaces(self):
        for p, n in SMALL:
            rooms = [room(p, n, d)[0] for d in range(n * (p - 1) + 1)]
            for s in sets_of(p, n):
                found = least(p, n, s)[0]
                for d, most in enumerate(rooms):
                    self.assertTrue(len(s) >= most or found <= d, (p, n, s, d))

    def test_in_every_space(self):
        for p, n in SPACES:
            rooms = [room(p, n, d)[0] for d in range(n * (p - 1) + 1)]
            for s in made_sets(p, n):
                found = least(p, n, s)[0]
                for d, most in enumerate(rooms):
                    self.assertTrue(len(s) >= most or found <= d, (p, n, s, d))

    def test_just_one_fewer_and_just_as_many(self):
        # The points whose numbers come to d at most are as many as there's room for d, and need a degree more.
        for p, n in SPACES:
            for d in range(n * (p - 1)):
                s = [x for x in range(p ** n) if x % p + x // p % p + x // p // p <= d]
                if len(s) < 130:
                    with self.subTest(p=p, n=n, d=d):
                        self.assertEqual([len(s)], room(p, n, d))
                        self.assertEqual(least(p, n, s)[0], d + 1)
                        self.assertLessEqual(least(p, n, s[1:])[0], d)
                        self.assertLessEqual(least(p, n, s[:-1])[0], d)


class Corners(unittest.TestCase):
    def test_no_terms(self):
        for p, n in SPACES:
            one = [1] + [0] * n
            with self.subTest(p=p, n=n):
                self.assertEqual([value(p, n, x, []) for x in range(p ** n)], [[0]] * p ** n)
                self.assertEqual(zeros(p, n, []), [p ** n] + list(range(p ** n)))
                self.assertEqual(reduced(p, n, []), [0])
                self.assertEqual(plus(p, n, [], []), [0])
                self.assertEqual(plus(p, n, one, []), [1] + one)
                self.assertEqual(plus(p, n, [], one), [1] + one)
                self.assertEqual(times(p, n, [], []), [0])
                self.assertEqual(times(p, n, one, []), [0])
                self.assertEqual(times(p, n, [], one), [0])

    def test_a_factor_of_0_when_added(self):
        for p, n in SPACES:
            one = [1] + [0] * n
            last = [1] + [0] * (n - 1) + [1]
            with self.subTest(p=p, n=n):
                self.assertEqual(plus(p, n, last, opposite(p, n, last)), [0])
                self.assertEqual(plus(p, n, one + last, opposite(p, n, last)), [1] + one)
                self.assertEqual(plus(p, n, one + last, opposite(p, n, one)), [1] + last)
                # 1 and the last unknown, times 1 less the last unknown.
                self.assertEqual(
                    times(p, n, one + last, one + opposite(p, n, last)),
                    [2] + one + [p - 1] + [0] * (n - 1) + [2])
                self.assertEqual(reduced(p, n, nought_row(p, n)), [0])
                self.assertEqual(reduced(p, n, one + nought_row(p, n)), [1] + one)

    def test_p_of_2(self):
        # 1 + x1, 1 + x2, and both multiplied.
        f = [1, 0, 0, 1, 1, 0]
        g = [1, 0, 0, 1, 0, 1]
        both = [1, 0, 0, 1, 0, 1, 1, 1, 0, 1, 1, 1]
        self.assertEqual(values(2, 2, f), [1, 0, 1, 0])
        self.assertEqual(zeros(2, 2, g), [2, 2, 3])
        self.assertEqual(reduced(2, 2, [1, 0, 12, 1, 12, 0, 1, 12, 12]), [3, 1, 0, 1, 1, 1, 0, 1, 1, 1])
        self.assertEqual(plus(2, 2, f, g), [2, 1, 0, 1, 1, 1, 0])
        self.assertEqual(times(2, 2, f, g), [4] + both)
        self.assertEqual(zeros(2, 2, both), [3, 1, 2, 3])
        self.assertEqual(least(2, 2, [1, 2, 3]), [2] + both)
        self.assertEqual([room(2, 2, d) for d in (0, 1, 2, 3)], [[1], [3], [4], [4]])

    def test_powers_above_p(self):
        for p in PRIMES:
            row = [1] + [p]
            with self.subTest(p=p):
                self.assertEqual(values(p, 1, row), list(range(p)))
                self.assertEqual(zeros(p, 1, row), [1, 0])
                self.assertEqual(reduced(p, 1, row), [1, 1, 1])
                self.assertEqual(plus(p, 1, row, [1, 1]), [2, 1, 1, 1, p])
                self.assertEqual(times(p, 1, row, [1, 1]), [1, 1, p + 1])
                self.assertEqual(least(p, 1, zeros(p, 1, row)[1:]), [1, 1, 1])
                self.assertEqual(room(p, 1, p), [p])

    def test_the_empty_set(self):
        for p, n in SPACES:
            row = least(p, n, [])
            with self.subTest(p=p, n=n):
                self.assertEqual(row, [0, 1] + [0] * n)
                self.assertEqual(zeros(p, n, row[1:]), [0])
                self.assertEqual(least(p, n, zeros(p, n, row[1:])[1:]), row)

    def test_one_point(self):
        for p, n in SPACES:
            for x in range(0, p ** n, 1 + p ** n // 30):
                row = least(p, n, [x])
                with self.subTest(p=p, n=n, x=x):
                    self.assertEqual(row[0], 1)
                    self.assertEqual(value(p, n, x, row[1:]), [0])
                    self.assertEqual(zeros(p, n, row[1:])[0], p ** (n - 1))

    def test_all_points_but_one(self):
        for p, n in SPACES:
            if p ** n < 130:
                for x in range(0, p ** n, 1 + p ** n // 10):
                    s = [y for y in range(p ** n) if y != x]
                    answer = least(p, n, s)
                    self.assertEqual(answer[0], n * (p - 1), (p, n, x))
                    if len(answer) <= 401:
                        self.assertEqual(zeros(p, n, answer[1:]), [p ** n - 1] + s, (p, n, x))

    def test_a_term_that_is_1(self):
        for p, n in SPACES:
            one = [1] + [0] * n
            with self.subTest(p=p, n=n):
                self.assertEqual(values(p, n, one), [1] * p ** n)
                self.assertEqual(zeros(p, n, one), [0])
                self.assertEqual(reduced(p, n, one), [1] + one)
                self.assertEqual(plus(p, n, one, opposite(p, n, one)), [0])
                self.assertEqual(times(p, n, one, one), [1] + one)
                self.assertEqual(least(p, n, []), [0] + one)
                self.assertEqual(room(p, n, 0), [1])


class Refusals(unittest.TestCase):
    def test_no_such_space_in_each_call(self):
        for p, n in NO_SPACES:
            row = [1] + [0] * n if n < 9 else [1]
            for f in ([], row):
                with self.subTest(p=p, n=n, f=f):
                    self.assertEqual(value(p, n, 0, f), [-22])
                    self.assertEqual(zeros(p, n, f), [-22])
                    self.assertEqual(reduced(p, n, f), [-22])
                    self.assertEqual(plus(p, n, f, f), [-22])
                    self.assertEqual(times(p, n, f, f), [-22])
            self.assertEqual(least(p, n, []), [-22])
            self.assertEqual(least(p, n, [0]), [-22])
            self.assertEqual(room(p, n, 0), [-22])

    def test_no_polynomial_in_each_call(self):
        for name, p, n, f in NO_POLYNOMIALS:
            with self.subTest(name):
                self.assertEqual(value(p, n, 0, f), [-22])
                self.assertEqual(zeros(p, n, f), [-22])
                self.assertEqual(reduced(p, n, f), [-22])
                self.assertEqual(plus(p, n, f, []), [-22])
                self.assertEqual(plus(p, n, [], f), [-22])
                self.assertEqual(times(p, n, f, []), [-22])
                self.assertEqual(times(p, n, [], f), [-22])

    def test_no_set_of_points(self):
        for name, p, n, s in NO_SETS:
            with self.subTest(name, p=p, n=n):
                self.assertEqual(least(p, n, s), [-22])

    def test_no_such_point(self):
        for p, n in SPACES:
            one = [1] + [0] * n
            for f in ([], one, [1] + [12] * n):
                for x in (p ** n, p ** n + 1, 343, GREATEST):
                    if x >= p ** n:
                        self.assertEqual(value(p, n, x, f), [-2], (p, n, x, f))
            self.assertEqual(value(p, n, p ** n - 1, one), [1])

    def test_degrees_too_high(self):
        for p, n in SPACES:
            last = [0] * (n - 1)
            with self.subTest(p=p, n=n):
                self.assertEqual(times(p, n, [1] + last + [7], [1] + last + [6]), [-28])
                self.assertEqual(times(p, n, [1] + last + [6], [1] + last + [6]), [1, 1] + last + [12])
                # The other calls take what times refuses.
                self.assertEqual(plus(p, n, [1] + last + [7], [1] + last + [6]),
                                 [2, 1] + last + [6, 1] + last + [7])

    def test_all_points(self):
        for p, n in SPACES:
            with self.subTest(p=p, n=n):
                self.assertEqual(least(p, n, list(range(p ** n))), [-33])
                self.assertEqual(least(p, n, zeros(p, n, [])[1:]), [-33])
                self.assertEqual(least(p, n, zeros(p, n, nought_row(p, n))[1:]), [-33])

    def test_the_one_told_first(self):
        for p, n in SPACES:
            wrong = [p] + [0] * n
            high = [1] + [12] * n
            every = list(range(p ** n))
            with self.subTest(p=p, n=n):
                self.assertEqual(value(p, n, p ** n, wrong), [-22])
                self.assertEqual(value(p + 8, n, GREATEST, []), [-22])
                self.assertEqual(value(p, n + 3, GREATEST, []), [-22])
                self.assertEqual(times(p, n, high + [1] + [0] * n, high), [-22])
                self.assertEqual(times(p, n, high, high + [1] + [0] * n), [-22])
                self.assertEqual(times(p, n, high, wrong), [-22])
                self.assertEqual(times(p + 8, n, high, high), [-22])
                self.assertEqual(times(p, n, high, high), [-28])
                self.assertEqual(least(p + 8, n, list(range(min(400, (p + 8) ** n)))), [-22])
                self.assertEqual(least(p, n, every + [p ** n]), [-22])
                self.assertEqual(least(p, n, every + [0]), [-22])
                self.assertEqual(least(p, n, every), [-33])

    def test_a_refusal_stands_alone(self):
        for answer in (
                value(4, 1, 0, []), value(5, 1, 5, []), zeros(5, 1, [1]), reduced(5, 1, [1]), plus(5, 1, [1], []),
                times(5, 1, [], [1]), times(5, 1, [1, 7], [1, 6]), least(5, 1, [5]), least(2, 1, [0, 1]),
                room(5, 0, 1)):
            self.assertEqual(len(answer), 1)
            self.assertLess(answer[0], 0)

    def test_no_refusal_where_none_is_due(self):
        for p, n in SPACES:
            for f, g in made_pairs(p, n)[:6]:
                for answer in (value(p, n, 0, f), zeros(p, n, f), reduced(p, n, f), plus(p, n, f, g)):
                    self.assertGreaterEqual(min(answer), 0)
            for f, g in low_pairs(p, n)[:6]:
                self.assertGreaterEqual(min(times(p, n, f, g)), 0)
            for s in made_sets(p, n, 30):
                self.assertGreaterEqual(min(least(p, n, s)), 0)


if __name__ == "__main__":
    unittest.main()
