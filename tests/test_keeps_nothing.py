"""What is handed in stays as it is; nothing is kept, printed, read or imported; loops, not depth."""

import contextlib
import copy
import inspect
import io
import sys
import unittest

from noughtsets import polynomials
from noughtsets.polynomials import plus, reduced, value, zeros
from tests.samples import (
    BY_HAND, GREATEST, NO_POLYNOMIALS, NO_SPACES, SPACES, Untouched, all_terms, made_pairs, made_rows, row_of,
)


def all_given():
    """Calls of every sort: the function, then its arguments."""
    spaces_and_rows = [(p, n, f) for p, n in SPACES for f in made_rows(p, n)]
    spaces_and_rows += [(p, n, f) for p, n, f, values in BY_HAND]
    spaces_and_rows += [(p, n, f) for name, p, n, f in NO_POLYNOMIALS]
    spaces_and_rows += [(p, n, [1, 0]) for p, n in NO_SPACES]
    given = []
    for p, n, f in spaces_and_rows:
        given.append((zeros, (p, n, f)))
        given.append((value, (p, n, 1, f)))
        given.append((value, (p, n, GREATEST, f)))
        given.append((reduced, (p, n, f)))
        given.append((plus, (p, n, f, [])))
        given.append((plus, (p, n, [], f)))
        given.append((plus, (p, n, f, f)))
    return given + [(plus, (p, n, f, g)) for p, n in SPACES for f, g in made_pairs(p, n)]


def untouched(given):
    """The same arguments, each list among them one that fails when it is changed."""
    return [Untouched(part) if isinstance(part, list) else part for part in given]


class HandedIn(unittest.TestCase):
    def test_not_changed(self):
        for function, given in all_given():
            before = copy.deepcopy(given)
            function(*given)
            self.assertEqual(given, before)

    def test_not_changed_for_a_while_either(self):
        for function, given in all_given():
            self.assertEqual(function(*untouched(given)), function(*given))

    def test_the_answer_is_another_list(self):
        for function, given in all_given():
            answer = function(*given)
            self.assertIs(type(answer), list)
            for part in given:
                self.assertIsNot(answer, part)


class Kept(unittest.TestCase):
    def test_the_same_again(self):
        calls = all_given()
        first = [function(*given) for function, given in calls]
        again = [function(*given) for function, given in reversed(calls)]
        self.assertEqual(first, list(reversed(again)))

    def test_a_changed_answer_changes_no_later_one(self):
        for function, given in all_given():
            answer = function(*given)
            kept = list(answer)
            answer.append(99)
            answer[0] = 98
            self.assertEqual(function(*given), kept)

    def test_a_row_changed_between_two_calls(self):
        f = [1, 0, 1, 2]
        self.assertEqual(zeros(5, 1, f), [2, 2, 3])
        f[0] = 4
        self.assertEqual(zeros(5, 1, f), [2, 1, 4])
        self.assertEqual(value(5, 1, 0, f), [4])
        self.assertEqual(reduced(5, 1, f), [2, 4, 0, 1, 2])
        self.assertEqual(plus(5, 1, f, [1, 0]), [1, 1, 2])
        f[3] = 6
        self.assertEqual(reduced(5, 1, f), [2, 4, 0, 1, 2])
        self.assertEqual(plus(5, 1, f, [1, 0]), [1, 1, 6])

    def test_a_refusal_between_two_calls(self):
        for function, right, wrong in (
                (reduced, (5, 1, [1, 5]), (5, 1, [1, 5, 1])),
                (plus, (5, 1, [1, 5], [2, 5]), (5, 1, [1, 5], [2, 5, 0, 6]))):
            before = function(*right)
            self.assertEqual(function(*wrong), [-22])
            self.assertEqual(function(*right), before)

    def test_the_module_is_as_before(self):
        before = copy.deepcopy({name: kept for name, kept in vars(polynomials).items() if name[:2] != "__"})
        for function, given in all_given():
            function(*given)
        after = {name: kept for name, kept in vars(polynomials).items() if name[:2] != "__"}
        self.assertEqual(after, before)


class Quiet(unittest.TestCase):
    def test_prints_and_imports_nothing(self):
        out = io.StringIO()
        calls = all_given()
        modules = set(sys.modules)
        with contextlib.redirect_stdout(out), contextlib.redirect_stderr(out):
            for function, given in calls:
                function(*given)
        self.assertEqual(out.getvalue(), "")
        self.assertEqual(set(sys.modules), modules)

    def test_the_longest_row_needs_little_depth(self):
        f = row_of(7, all_terms(3)[:100])
        g = row_of(7, all_terms(3)[-100:])
        calls = [(value, (7, 3, 1, f)), (zeros, (7, 3, f)), (reduced, (7, 3, g)), (plus, (7, 3, g, f))]
        answers = [function(*given) for function, given in calls]
        limit = sys.getrecursionlimit()
        sys.setrecursionlimit(len(inspect.stack()) + 30)
        try:
            again = [function(*given) for function, given in calls]
        finally:
            sys.setrecursionlimit(limit)
        self.assertEqual(again, answers)


class Interface(unittest.TestCase):
    def test_names_of_the_arguments(self):
        self.assertEqual(list(inspect.signature(value).parameters), ["p", "n", "x", "f"])
        self.assertEqual(list(inspect.signature(zeros).parameters), ["p", "n", "f"])
        self.assertEqual(list(inspect.signature(reduced).parameters), ["p", "n", "f"])
        self.assertEqual(list(inspect.signature(plus).parameters), ["p", "n", "f", "g"])


if __name__ == "__main__":
    unittest.main()
