"""reduced: how many terms f has when it's reduced, then its row, and its refusals."""

import unittest
from itertools import product

from noughtsets.polynomials import plus, reduced, value, zeros
from tests.samples import (
    GREATEST, NO_POLYNOMIALS, NO_SPACES, PRIMES, SPACES,
    all_terms, counted, greatest_degree, is_as_told, made_rows, nought_row, reckoned, row_of,
)

# For each p: how often an unknown stands there when it's reduced, if it stood there 0 to 12 times.
LOWERED = {
    2: [0, 1, 1, 1, 1, 1, 1, 1, 1, 1, 1, 1, 1],
    3: [0, 1, 2, 1, 2, 1, 2, 1, 2, 1, 2, 1, 2],
    5: [0, 1, 2, 3, 4, 1, 2, 3, 4, 1, 2, 3, 4],
    7: [0, 1, 2, 3, 4, 5, 6, 1, 2, 3, 4, 5, 6],
}

# p, n, the row, the answer; the terms that fall away or become alike are not the only ones.
BY_HAND = [
    (2, 1, [1, 0, 1, 1, 1, 2, 1, 12], [2, 1, 0, 1, 1]),
    (2, 2, [1, 0, 2, 1, 2, 0, 1, 2, 1], [3, 1, 0, 1, 1, 1, 0, 1, 1, 1]),
    (2, 3, [1, 0, 0, 1, 1, 0, 0, 4, 1, 2, 3, 4], [1, 1, 1, 1, 1]),
    (3, 1, [2, 0, 1, 1, 1, 2, 1, 3, 2, 4], [2, 2, 0, 2, 1]),
    (3, 2, [1, 1, 0, 2, 0, 4, 1, 3, 2], [3, 1, 1, 0, 2, 0, 2, 1, 1, 2]),
    (3, 3, [1, 0, 1, 0, 2, 3, 0, 1, 2, 3, 3, 3], [3, 1, 0, 1, 0, 2, 1, 0, 1, 2, 1, 1, 1]),
    (5, 1, [4, 0, 3, 1, 4, 5, 1, 8], [3, 4, 0, 2, 1, 1, 4]),
    (5, 2, [1, 0, 5, 1, 5, 0, 2, 5, 5], [3, 1, 0, 1, 1, 1, 0, 2, 1, 1]),
    (5, 3, [2, 0, 0, 4, 3, 0, 0, 8, 1, 9, 9, 9], [1, 1, 1, 1, 1]),
    (7, 1, [5, 0, 3, 6, 6, 7, 4, 8, 2, 12], [4, 5, 0, 6, 1, 4, 2, 5, 6]),
    (7, 2, [3, 1, 2, 2, 7, 2, 6, 6, 8], [2, 5, 1, 2, 6, 6, 2]),
    (7, 3, [1, 0, 0, 7, 1, 0, 7, 0, 1, 7, 0, 0, 4, 12, 12, 12],
     [4, 1, 0, 0, 1, 1, 0, 1, 0, 1, 1, 0, 0, 4, 6, 6, 6]),
]


def values(p, n, f):
    return [value(p, n, x, f)[0] for x in range(p ** n)]


def all_rows(p, unknowns):
    """Every polynomial with no other terms than these, given without factors and in their order."""
    for factors in product(range(p), repeat=len(unknowns)):
        row = []
        for factor, often in zip(factors, unknowns):
            if factor:
                row.extend((factor,) + often)
        yield row


class Ordinary(unittest.TestCase):
    def test_by_hand(self):
        for p, n, f, answer in BY_HAND:
            with self.subTest(p=p, n=n, f=f):
                self.assertEqual(reduced(p, n, f), answer)

    def test_by_hand_is_the_same_everywhere(self):
        for p, n, f, answer in BY_HAND:
            with self.subTest(p=p, n=n, f=f):
                self.assertEqual(reckoned(p, n, answer[1:]), reckoned(p, n, f))

    def test_made_rows(self):
        # No two reduced polynomials have the same values, so this leaves just one answer.
        for p, n in SPACES:
            for f in made_rows(p, n):
                with self.subTest(p=p, n=n, f=f):
                    answer = reduced(p, n, f)
                    row = answer[1:]
                    self.assertEqual(answer, counted(n, row))
                    self.assertTrue(is_as_told(p, n, row))
                    for k in range(0, len(row), n + 1):
                        self.assertLess(max(row[k + 1:k + n + 1]), p)
                    self.assertEqual(reckoned(p, n, row), reckoned(p, n, f))

    def test_whole_numbers_in_a_list(self):
        answer = reduced(5, 1, [1, 0, 1, 12])
        self.assertIs(type(answer), list)
        self.assertEqual({type(number) for number in answer}, {int})


class Powers(unittest.TestCase):
    def test_around_p_in_each_unknown(self):
        for p, n in SPACES:
            for often in (p - 1, p, p + 1, 2 * p - 1, 12):
                for k in range(n):
                    row = [p - 1] + [0] * n
                    row[1 + k] = often
                    answer = [1, p - 1] + [0] * n
                    answer[2 + k] = LOWERED[p][often] if often <= 12 else None
                    with self.subTest(p=p, n=n, often=often, k=k):
                        self.assertEqual(reduced(p, n, row), answer if often <= 12 else [-22])

    def test_written_out(self):
        self.assertEqual([reduced(2, 1, [1, often]) for often in (1, 2, 3, 12)], [[1, 1, 1]] * 4)
        self.assertEqual(
            [reduced(3, 1, [1, often])[2] for often in (2, 3, 4, 5, 12)], [2, 1, 2, 1, 2])
        self.assertEqual(
            [reduced(5, 1, [1, often])[2] for often in (4, 5, 6, 9, 12)], [4, 1, 2, 1, 4])
        self.assertEqual([reduced(7, 1, [1, often])[2] for often in (6, 7, 8, 12)], [6, 1, 2, 6])

    def test_every_term_there_is(self):
        for p, n in SPACES:
            for often in all_terms(n):
                answer = [1, 1] + [LOWERED[p][number] for number in often]
                self.assertEqual(reduced(p, n, [1] + list(often)), answer, (p, often))

    def test_each_factor_stays(self):
        for p, n in SPACES:
            for factor in range(1, p):
                with self.subTest(p=p, n=n, factor=factor):
                    self.assertEqual(reduced(p, n, [factor] + [p] * n), [1, factor] + [1] * n)

    def test_no_power_becomes_1(self):
        # x1 to the power of p - 1 is 0 where x1 is 0: it must not be taken for 1.
        for p in PRIMES:
            for often in range(p - 1, 13, p - 1):
                with self.subTest(p=p, often=often):
                    self.assertEqual(reduced(p, 1, [1, 0, 1, often]), [2, 1, 0, 1, p - 1])


class Alike(unittest.TestCase):
    def test_like_terms_are_one(self):
        self.assertEqual(reduced(5, 1, [1, 1, 2, 5]), [1, 3, 1])
        self.assertEqual(reduced(5, 1, [4, 1, 3, 5]), [1, 2, 1])
        self.assertEqual(reduced(5, 1, [4, 4, 4, 8, 4, 12]), [1, 2, 4])
        self.assertEqual(reduced(7, 2, [6, 1, 1, 5, 1, 7, 4, 7, 1, 3, 7, 7]), [1, 4, 1, 1])
        self.assertEqual(reduced(2, 1, [1, 1, 1, 2, 1, 3]), [1, 1, 1])

    def test_like_terms_fall_away(self):
        self.assertEqual(reduced(5, 1, [1, 1, 4, 5]), [0])
        self.assertEqual(reduced(3, 1, [1, 2, 1, 4, 1, 6]), [0])
        self.assertEqual(reduced(2, 1, [1, 3, 1, 8]), [0])
        self.assertEqual(reduced(7, 3, [3, 1, 0, 0, 1, 0, 2, 1, 4, 7, 0, 0]), [1, 1, 0, 2, 1])
        self.assertEqual(reduced(2, 2, [1, 0, 0, 1, 1, 2, 1, 2, 1]), [1, 1, 0, 0])

    def test_all_factors_of_two_like_terms(self):
        for p, n in SPACES:
            rest = [0] * (n - 1)
            for first, second in product(range(1, p), repeat=2):
                total = (first + second) % p
                with self.subTest(p=p, n=n, first=first, second=second):
                    self.assertEqual(
                        reduced(p, n, [first, 1] + rest + [second, p] + rest),
                        [1, total, 1] + rest if total else [0])

    def test_alike_with_others_between(self):
        self.assertEqual(
            reduced(3, 2, [1, 0, 1, 1, 1, 1, 1, 0, 3]), [2, 2, 0, 1, 1, 1, 1])

    def test_unlike_terms_of_one_degree_stay_two(self):
        self.assertEqual(reduced(5, 2, [1, 0, 5, 4, 5, 0]), [2, 1, 0, 1, 4, 1, 0])
        self.assertEqual(reduced(5, 2, [1, 1, 6, 4, 6, 1]), [2, 1, 1, 2, 4, 2, 1])


class Order(unittest.TestCase):
    def test_the_degree_changes_it(self):
        self.assertEqual(reduced(5, 1, [1, 2, 2, 5]), [2, 2, 1, 1, 2])
        self.assertEqual(reduced(3, 2, [1, 0, 2, 2, 3, 0]), [2, 2, 1, 0, 1, 0, 2])
        self.assertEqual(
            reduced(7, 3, [1, 1, 1, 1, 2, 0, 0, 7]), [2, 2, 0, 0, 1, 1, 1, 1, 1])

    def test_the_first_unknown_changes_it(self):
        self.assertEqual(reduced(3, 2, [1, 2, 0, 2, 1, 3]), [2, 2, 1, 1, 1, 2, 0])
        self.assertEqual(reduced(5, 2, [3, 2, 1, 2, 5, 2]), [2, 2, 1, 2, 3, 2, 1])

    def test_the_second_unknown_changes_it(self):
        self.assertEqual(
            reduced(5, 3, [3, 1, 2, 1, 2, 1, 5, 2]), [2, 2, 1, 1, 2, 3, 1, 2, 1])
        self.assertEqual(
            reduced(3, 3, [2, 0, 2, 0, 1, 0, 3, 1]), [2, 1, 0, 1, 1, 2, 0, 2, 0])

    def test_turned_round(self):
        f = [1, 4, 2, 5, 3, 9]
        self.assertEqual(reduced(5, 1, f), [1, 1, 4])
        self.assertEqual(reduced(5, 1, [1, 2, 2, 3, 3, 5, 4, 8]), [4, 3, 1, 1, 2, 2, 3, 4, 4])


class Already(unittest.TestCase):
    def test_a_reduced_one_stays(self):
        for p, n in SPACES:
            unknowns = [often for often in all_terms(n) if max(often) < p]
            for step in (1, 2, 3, 4):
                f = row_of(p, unknowns[step // 2::step][:400 // (n + 1)])
                with self.subTest(p=p, n=n, step=step):
                    self.assertEqual(reduced(p, n, f), counted(n, f))

    def test_reduced_twice_is_reduced_once(self):
        for p, n in SPACES:
            for f in made_rows(p, n):
                with self.subTest(p=p, n=n, f=f):
                    answer = reduced(p, n, f)
                    self.assertEqual(reduced(p, n, answer[1:]), answer)

    def test_the_row_can_be_handed_in_again(self):
        for p, n in SPACES:
            for f in made_rows(p, n):
                with self.subTest(p=p, n=n, f=f):
                    answer = reduced(p, n, f)
                    self.assertLessEqual(len(answer[1:]), 400)
                    self.assertEqual(plus(p, n, answer[1:], []), answer)
                    self.assertNotEqual(zeros(p, n, answer[1:]), [-22])


class AgainstTheOthers(unittest.TestCase):
    def test_the_same_value_at_every_point(self):
        for p, n in SPACES:
            for f in made_rows(p, n)[:9]:
                with self.subTest(p=p, n=n, f=f):
                    self.assertEqual(values(p, n, reduced(p, n, f)[1:]), values(p, n, f))

    def test_0_everywhere_has_no_terms(self):
        for p, n in SPACES:
            for often in range(1, 14 - p):
                with self.subTest(p=p, n=n, often=often):
                    f = nought_row(p, n, often)
                    self.assertEqual(zeros(p, n, f)[0], p ** n)
                    self.assertEqual(reduced(p, n, f), [0])

    def test_0_everywhere_times_a_term_has_no_terms(self):
        for p, n in SPACES:
            for often in all_terms(n)[::17] + [(1,) * n]:
                for k in range(n):
                    raised = list(often)
                    raised[k] += p - 1
                    if often[k] == 0 or raised[k] > 12:
                        continue
                    with self.subTest(p=p, n=n, often=often, k=k):
                        self.assertEqual(reduced(p, n, [1] + list(often) + [p - 1] + raised), [0])

    def test_no_terms_just_where_it_is_0_everywhere(self):
        small = [
            (2, [(often,) for often in range(10)]),
            (3, [(often,) for often in range(7)]),
            (2, [often for often in all_terms(2) if max(often) < 3]),
            (5, [(0,), (1,), (4,), (5,), (8,)]),
            (7, [(0,), (6,), (7,), (12,)]),
        ]
        for p, unknowns in small:
            n = len(unknowns[0])
            found = 0
            for f in all_rows(p, unknowns):
                nought = zeros(p, n, f)[0] == p ** n
                self.assertEqual(reduced(p, n, f) == [0], nought, (p, n, f))
                found += nought
            self.assertGreater(found, 1)

    def test_0_at_no_more_points_than_the_degree_allows(self):
        for p, n in SPACES:
            for f in made_rows(p, n) + [[1] + [often] * n for often in range(13)]:
                row = reduced(p, n, f)[1:]
                if row:
                    with self.subTest(p=p, n=n, f=f):
                        self.assertLessEqual(
                            zeros(p, n, row)[0], greatest_degree(n, row) * p ** (n - 1))

    def test_every_small_one_is_0_at_no_more_points(self):
        small = [
            (2, [(often,) for often in range(9)]),
            (3, [(often,) for often in range(7)]),
            (2, [often for often in all_terms(2) if max(often) < 3]),
            (2, [often for often in all_terms(3) if max(often) < 2]),
        ]
        for p, unknowns in small:
            n = len(unknowns[0])
            for f in all_rows(p, unknowns):
                row = reduced(p, n, f)[1:]
                if row:
                    most = greatest_degree(n, row) * p ** (n - 1)
                    self.assertLessEqual(zeros(p, n, row)[0], most, (p, n, f))


class Corners(unittest.TestCase):
    def test_no_terms(self):
        for p, n in SPACES:
            with self.subTest(p=p, n=n):
                self.assertEqual(reduced(p, n, []), [0])

    def test_a_term_that_is_1(self):
        for p, n in SPACES:
            for factor in range(1, p):
                with self.subTest(p=p, n=n, factor=factor):
                    self.assertEqual(reduced(p, n, [factor] + [0] * n), [1, factor] + [0] * n)

    def test_p_of_2(self):
        self.assertEqual(reduced(2, 1, [1, 0, 1, 1, 1, 2]), [1, 1, 0])
        self.assertEqual(reduced(2, 2, [1, 1, 1, 1, 0, 12, 1, 12, 0, 1, 12, 12]), [2, 1, 0, 1, 1, 1, 0])
        self.assertEqual(reduced(2, 3, [1, 12, 12, 12]), [1, 1, 1, 1, 1])

    def test_rows_as_long_as_may_be(self):
        for p in PRIMES:
            for n in (2, 3):
                most = 400 // (n + 1)
                for chosen in (all_terms(n)[:most], all_terms(n)[-most:], all_terms(n)[1::2][:most]):
                    f = row_of(p, chosen)
                    with self.subTest(p=p, n=n, first=chosen[0]):
                        answer = reduced(p, n, f)
                        self.assertTrue(is_as_told(p, n, answer[1:]))
                        self.assertEqual(reckoned(p, n, answer[1:]), reckoned(p, n, f))

    def test_400_numbers_that_come_to_one_term(self):
        # With p = 2 all terms with every unknown become x1 x2 x3; 100 ones come to 0, 99 to 1.
        chosen = [often for often in all_terms(3) if min(often) > 0]
        self.assertEqual(reduced(2, 3, row_of(2, chosen[:100])), [0])
        self.assertEqual(reduced(2, 3, row_of(2, chosen[:99])), [1, 1, 1, 1, 1])

    def test_all_terms_of_one_unknown(self):
        whole = [number for often in range(13) for number in (1, often)]
        self.assertEqual(reduced(2, 1, whole), [1, 1, 0])
        self.assertEqual(reduced(3, 1, whole), [1, 1, 0])
        self.assertEqual(reduced(5, 1, whole), [5, 1, 0, 3, 1, 3, 2, 3, 3, 3, 4])
        self.assertEqual(reduced(7, 1, whole), [7, 1, 0, 2, 1, 2, 2, 2, 3, 2, 4, 2, 5, 2, 6])


class Refusals(unittest.TestCase):
    def test_no_such_space(self):
        for p, n in NO_SPACES:
            for f in ([], [1, 0], [1, 0, 0], [1, 0, 0, 0], [1, 0, 0, 0, 0], [1] * 400):
                with self.subTest(p=p, n=n, f=f):
                    self.assertEqual(reduced(p, n, f), [-22])

    def test_no_polynomial(self):
        for name, p, n, f in NO_POLYNOMIALS:
            with self.subTest(name):
                self.assertEqual(reduced(p, n, f), [-22])

    def test_an_answer_with_its_count_is_no_row(self):
        self.assertEqual(reduced(5, 1, [2, 1, 0, 1, 1]), [-22])

    def test_greatest_numbers(self):
        self.assertEqual(reduced(7, 1, [1, GREATEST]), [-22])
        self.assertEqual(reduced(7, 3, [6, 12, 12, GREATEST]), [-22])
        self.assertEqual(reduced(GREATEST, 3, [GREATEST] * 400), [-22])
        self.assertEqual(reduced(7, GREATEST, [GREATEST] * 400), [-22])


if __name__ == "__main__":
    unittest.main()
