"""room: how many terms there are with each unknown less than p times, of degree d at most; and its refusal."""

import time
import unittest

from noughtsets.polynomials import room
from tests.samples import GREATEST, NO_SPACES, PRIMES, SPACES, low_unknowns

# For each p and n: the answers for the degrees from 0 on, to the one by which all terms count.
BY_HAND = {
    (2, 1): [1, 2],
    (2, 2): [1, 3, 4],
    (2, 3): [1, 4, 7, 8],
    (3, 1): [1, 2, 3],
    (3, 2): [1, 3, 6, 8, 9],
    (3, 3): [1, 4, 10, 17, 23, 26, 27],
    (5, 1): [1, 2, 3, 4, 5],
    (5, 2): [1, 3, 6, 10, 15, 19, 22, 24, 25],
    (5, 3): [1, 4, 10, 20, 35, 53, 72, 90, 105, 115, 121, 124, 125],
    (7, 1): [1, 2, 3, 4, 5, 6, 7],
    (7, 2): [1, 3, 6, 10, 15, 21, 28, 34, 39, 43, 46, 48, 49],
    (7, 3): [1, 4, 10, 20, 35, 56, 84, 117, 153, 190, 226, 259, 287, 308, 323, 333, 339, 342, 343],
}


def by_unknowns(p, n):
    """How many terms have each degree: unknown by unknown, as so many ways more."""
    ways = [1]
    for k in range(n):
        longer = [0] * (len(ways) + p - 1)
        for degree, count in enumerate(ways):
            for often in range(p):
                longer[degree + often] += count
        ways = longer
    return ways


class EveryDegree(unittest.TestCase):
    def test_by_hand(self):
        for (p, n), answers in BY_HAND.items():
            for d, answer in enumerate(answers):
                with self.subTest(p=p, n=n, d=d):
                    self.assertEqual(room(p, n, d), [answer])

    def test_every_space_and_degree_by_hand(self):
        self.assertEqual(list(BY_HAND), SPACES)
        for (p, n), answers in BY_HAND.items():
            self.assertEqual(len(answers), n * (p - 1) + 1)
            self.assertEqual(answers[-1], p ** n)

    def test_unknown_by_unknown(self):
        for p, n in SPACES:
            ways = by_unknowns(p, n)
            for d in range(n * (p - 1) + 1):
                with self.subTest(p=p, n=n, d=d):
                    self.assertEqual(room(p, n, d), [sum(ways[:d + 1])])

    def test_by_going_through_all_terms(self):
        for p, n in SPACES:
            unknowns = low_unknowns(p, n)
            for d in range(n * (p - 1) + 3):
                with self.subTest(p=p, n=n, d=d):
                    self.assertEqual(room(p, n, d), [len([often for often in unknowns if sum(often) <= d])])

    def test_from_both_ends(self):
        # Each term has an opposite one: of each unknown as many as are wanting to p - 1.
        for p, n in SPACES:
            for d in range(n * (p - 1)):
                with self.subTest(p=p, n=n, d=d):
                    self.assertEqual(room(p, n, d)[0] + room(p, n, n * (p - 1) - 1 - d)[0], p ** n)

    def test_whole_numbers_in_a_list(self):
        for p, n in SPACES:
            for d in (0, 1, GREATEST):
                answer = room(p, n, d)
                self.assertIs(type(answer), list)
                self.assertEqual([type(number) for number in answer], [int])


class Corners(unittest.TestCase):
    def test_degree_0(self):
        for p, n in SPACES:
            with self.subTest(p=p, n=n):
                self.assertEqual(room(p, n, 0), [1])

    def test_degree_1(self):
        for p, n in SPACES:
            with self.subTest(p=p, n=n):
                self.assertEqual(room(p, n, 1), [n + 1])

    def test_all_terms_but_one(self):
        for p, n in SPACES:
            with self.subTest(p=p, n=n):
                self.assertEqual(room(p, n, n * (p - 1) - 1), [p ** n - 1])
                self.assertEqual(room(p, n, n * (p - 1)), [p ** n])

    def test_higher_degrees(self):
        for p, n in SPACES:
            top = n * (p - 1)
            for d in (top + 1, top + 2, 12, 13, 36, 37, 400, 65536, 2147483648, GREATEST - 1, GREATEST):
                if d >= top:
                    with self.subTest(p=p, n=n, d=d):
                        self.assertEqual(room(p, n, d), [p ** n])

    def test_p_of_2(self):
        self.assertEqual([room(2, 1, d) for d in (0, 1, 2)], [[1], [2], [2]])
        self.assertEqual([room(2, 3, d) for d in (0, 1, 2, 3, 4)], [[1], [4], [7], [8], [8]])

    def test_the_greatest_degree_within_seconds(self):
        begin = time.process_time()
        for p, n in SPACES:
            self.assertEqual(room(p, n, GREATEST), [p ** n])
        self.assertLess(time.process_time() - begin, 10)


class Refusals(unittest.TestCase):
    def test_no_such_space(self):
        for p, n in NO_SPACES:
            for d in (0, 1, 2, 12, GREATEST):
                with self.subTest(p=p, n=n, d=d):
                    self.assertEqual(room(p, n, d), [-22])

    def test_by_p_alone(self):
        for p in range(100):
            for n in (1, 2, 3):
                with self.subTest(p=p, n=n):
                    self.assertEqual(room(p, n, 1), [n + 1] if p in (2, 3, 5, 7) else [-22])

    def test_by_n_alone(self):
        for p in PRIMES:
            for n in range(20):
                with self.subTest(p=p, n=n):
                    self.assertEqual(room(p, n, 1), [n + 1] if 1 <= n <= 3 else [-22])

    def test_no_degree_is_refused(self):
        for p, n in SPACES:
            for d in list(range(60)) + [GREATEST]:
                self.assertGreater(room(p, n, d)[0], 0)


if __name__ == "__main__":
    unittest.main()
