"""What is handed in stays as it is; nothing is kept, printed, read or imported; loops, not depth."""

import contextlib
import copy
import inspect
import io
import sys
import unittest

from noughtsets import polynomials
from noughtsets.polynomials import least, plus, reduced, room, times, value, zeros
from tests.samples import (
    BY_HAND, GREATEST, NO_POLYNOMIALS, NO_SETS, NO_SPACES, SPACES, Untouched,
    all_terms, low_pairs, made_pairs, made_rows, made_sets, row_of,
)


def all_given():
    """Calls of every sort: the function, then its arguments."""
    spaces_and_rows = [(p, n, f) for p, n in SPACES for f in made_rows(p, n)]
    spaces_and_rows += [(p, n, f) for p, n, f, values in BY_HAND]
    spaces_and_rows += [(p, n, f) for name, p, n, f in NO_POLYNOMIALS]
    spaces_and_rows += [(p, n, [1, 0]) for p, n in NO_SPACES]
    given = []
    for p, n, f in spaces_and_rows:
        given.append((zeros, (p, n, f)))
        given.append((value, (p, n, 1, f)))
        given.append((value, (p, n, GREATEST, f)))
        given.append((reduced, (p, n, f)))
        given.append((plus, (p, n, f, [])))
        given.append((plus, (p, n, [], f)))
        given.append((plus, (p, n, f, f)))
        given.append((times, (p, n, f, [])))
        given.append((times, (p, n, [], f)))
        given.append((times, (p, n, f, f)))
    for p, n in SPACES:
        given += [(plus, (p, n, f, g)) for f, g in made_pairs(p, n)]
        given += [(times, (p, n, f, g)) for f, g in low_pairs(p, n)]
    for p, n in SPACES + NO_SPACES:
        given += [(room, (p, n, d)) for d in (0, 1, 2, 5, 18, 19, GREATEST)]
    return given + sets_given()


def sets_given():
    """Calls of least, of every sort."""
    given = [(least, (p, n, s)) for p, n in SPACES for s in made_sets(p, n, 60)]
    given += [(least, (p, n, list(range(p ** n)))) for p, n in SPACES]
    given += [(least, (p, n, s)) for name, p, n, s in NO_SETS]
    return given + [(least, (p, n, [0, 1])) for p, n in NO_SPACES]


def untouched(given):
    """The same arguments, each list among them one that fails when it is changed."""
    return [Untouched(part) if isinstance(part, list) else part for part in given]


class HandedIn(unittest.TestCase):
    def test_not_changed(self):
        for function, given in all_given():
            before = copy.deepcopy(given)
            function(*given)
            self.assertEqual(given, before)

    def test_not_changed_for_a_while_either(self):
        for function, given in all_given():
            self.assertEqual(function(*untouched(given)), function(*given))

    def test_the_answer_is_another_list(self):
        for function, given in all_given():
            answer = function(*given)
            self.assertIs(type(answer), list)
            for part in given:
                self.assertIsNot(answer, part)


class Kept(unittest.TestCase):
    def test_the_same_again(self):
        calls = all_given()
        first = [function(*given) for function, given in calls]
        again = [function(*given) for function, given in reversed(calls)]
        self.assertEqual(first, list(reversed(again)))

    def test_a_changed_answer_changes_no_later_one(self):
        for function, given in all_given():
            answer = function(*given)
            kept = list(answer)
            answer.append(99)
            answer[0] = 98
            self.assertEqual(function(*given), kept)

    def test_a_row_changed_between_two_calls(self):
        f = [1, 0, 1, 2]
        self.assertEqual(zeros(5, 1, f), [2, 2, 3])
        f[0] = 4
        self.assertEqual(zeros(5, 1, f), [2, 1, 4])
        self.assertEqual(value(5, 1, 0, f), [4])
        self.assertEqual(reduced(5, 1, f), [2, 4, 0, 1, 2])
        self.assertEqual(plus(5, 1, f, [1, 0]), [1, 1, 2])
        f[3] = 6
        self.assertEqual(reduced(5, 1, f), [2, 4, 0, 1, 2])
        self.assertEqual(plus(5, 1, f, [1, 0]), [1, 1, 6])
        self.assertEqual(times(5, 1, f, [2, 0]), [2, 3, 0, 2, 6])
        f[2] = 3
        self.assertEqual(times(5, 1, f, [2, 0]), [2, 3, 0, 1, 6])

    def test_a_set_changed_between_two_calls(self):
        s = [1, 4]
        self.assertEqual(least(5, 1, s), [2, 4, 0, 1, 2])
        s[1] = 3
        self.assertEqual(least(5, 1, s), [2, 3, 0, 1, 1, 1, 2])
        s.append(3)
        self.assertEqual(least(5, 1, s), [-22])
        s.pop()
        s.pop()
        self.assertEqual(least(5, 1, s), [1, 4, 0, 1, 1])
        s.pop()
        self.assertEqual(least(5, 1, s), [0, 1, 0])

    def test_a_refusal_between_two_calls(self):
        for function, right, wrong in (
                (reduced, (5, 1, [1, 5]), (5, 1, [1, 5, 1])),
                (plus, (5, 1, [1, 5], [2, 5]), (5, 1, [1, 5], [2, 5, 0, 6])),
                (times, (5, 1, [1, 5], [2, 5]), (5, 1, [1, 5], [2, 5, 0, 6])),
                (least, (5, 1, [1, 2]), (5, 1, [1, 2, 2])),
                (room, (5, 3, 6), (5, 4, 6))):
            before = function(*right)
            self.assertEqual(function(*wrong), [-22])
            self.assertEqual(function(*right), before)

    def test_the_module_is_as_before(self):
        before = copy.deepcopy({name: kept for name, kept in vars(polynomials).items() if name[:2] != "__"})
        for function, given in all_given():
            function(*given)
        after = {name: kept for name, kept in vars(polynomials).items() if name[:2] != "__"}
        self.assertEqual(after, before)


class Quiet(unittest.TestCase):
    def test_prints_and_imports_nothing(self):
        out = io.StringIO()
        calls = all_given()
        modules = set(sys.modules)
        with contextlib.redirect_stdout(out), contextlib.redirect_stderr(out):
            for function, given in calls:
                function(*given)
        self.assertEqual(out.getvalue(), "")
        self.assertEqual(set(sys.modules), modules)

    def test_the_longest_rows_need_little_depth(self):
        f = row_of(7, all_terms(3)[:100])
        g = row_of(7, all_terms(3)[-100:])
        low = row_of(7, [often for often in all_terms(3) if sum(often) <= 5])
        calls = [(value, (7, 3, 1, f)), (zeros, (7, 3, f)), (reduced, (7, 3, g)), (plus, (7, 3, g, f))]
        calls += [(times, (7, 3, f, low)), (least, (7, 3, list(range(342)))), (room, (7, 3, GREATEST))]
        answers = [function(*given) for function, given in calls]
        limit = sys.getrecursionlimit()
        sys.setrecursionlimit(len(inspect.stack()) + 30)
        try:
            again = [function(*given) for function, given in calls]
        finally:
            sys.setrecursionlimit(limit)
        self.assertEqual(again, answers)


class Interface(unittest.TestCase):
    def test_names_of_the_arguments(self):
        self.assertEqual(list(inspect.signature(value).parameters), ["p", "n", "x", "f"])
        self.assertEqual(list(inspect.signature(zeros).parameters), ["p", "n", "f"])
        self.assertEqual(list(inspect.signature(reduced).parameters), ["p", "n", "f"])
        self.assertEqual(list(inspect.signature(plus).parameters), ["p", "n", "f", "g"])
        self.assertEqual(list(inspect.signature(times).parameters), ["p", "n", "f", "g"])
        self.assertEqual(list(inspect.signature(least).parameters), ["p", "n", "s"])
        self.assertEqual(list(inspect.signature(room).parameters), ["p", "n", "d"])

    def test_every_call_is_given_something(self):
        self.assertEqual(
            {function for function, given in all_given()}, {value, zeros, reduced, plus, times, least, room})

    def test_whole_numbers_in_a_list_a_refusal_alone(self):
        for function, given in all_given():
            answer = function(*given)
            self.assertIs(type(answer), list)
            self.assertEqual({type(number) for number in answer}, {int})
            if answer[0] < 0:
                self.assertIn(answer, [[-22], [-2], [-28], [-33]])
            self.assertTrue(len(answer) == 1 or min(answer) >= 0)
            if function in (value, room):
                self.assertEqual(len(answer), 1)

    def test_plain_arguments_without_defaults(self):
        for function in (value, zeros, reduced, plus, times, least, room):
            for parameter in inspect.signature(function).parameters.values():
                self.assertEqual(parameter.kind, inspect.Parameter.POSITIONAL_OR_KEYWORD)
                self.assertIs(parameter.default, inspect.Parameter.empty)

    def test_arguments_by_their_names(self):
        self.assertEqual(value(f=[1, 1], x=3, n=1, p=5), [3])
        self.assertEqual(zeros(f=[1, 1], n=1, p=5), [1, 0])
        self.assertEqual(reduced(f=[1, 5], n=1, p=5), [1, 1, 1])
        self.assertEqual(plus(g=[1, 1], f=[1, 0], n=1, p=5), [2, 1, 0, 1, 1])
        self.assertEqual(times(g=[1, 1], f=[2, 0], n=1, p=5), [1, 2, 1])
        self.assertEqual(least(s=[0], n=1, p=5), [1, 1, 1])
        self.assertEqual(room(d=3, n=1, p=5), [4])


if __name__ == "__main__":
    unittest.main()
