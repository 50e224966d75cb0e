"""What several tests need: rows with answers reckoned by hand, and a plain reckoning of its own."""

from itertools import product

PRIMES = (2, 3, 5, 7)
COUNTS = (1, 2, 3)
SPACES = [(p, n) for p in PRIMES for n in COUNTS]
GREATEST = 4294967295

# p, n, the row, the values at all points in their order.
BY_HAND = [
    (2, 1, [1, 0, 1, 3], [1, 0]),
    (2, 2, [1, 0, 0, 1, 0, 1, 1, 1, 1], [1, 1, 0, 1]),
    (2, 3, [1, 0, 0, 1, 1, 1, 1, 0], [0, 0, 0, 1, 1, 1, 1, 0]),
    (3, 1, [2, 0, 1, 2], [2, 0, 0]),
    (3, 2, [1, 0, 0, 2, 1, 0, 1, 0, 2], [1, 0, 2, 2, 1, 0, 2, 1, 0]),
    (3, 3, [1, 0, 0, 1, 1, 0, 1, 0, 1, 1, 0, 0],
     [0, 1, 2, 1, 2, 0, 2, 0, 1, 1, 2, 0, 2, 0, 1, 0, 1, 2, 2, 0, 1, 0, 1, 2, 1, 2, 0]),
    (5, 1, [1, 0, 1, 2], [1, 2, 0, 0, 2]),
    (7, 1, [6, 0, 1, 3], [6, 0, 0, 5, 0, 5, 5]),
]

# p, n, the row, a point, the value there.
BY_HAND_AT = [
    (5, 2, [3, 0, 0, 2, 0, 1, 4, 1, 0, 1, 1, 2], 13, 1),
    (5, 3, [2, 1, 1, 1], 117, 3),
    (7, 2, [1, 0, 2, 1, 2, 0], 16, 1),
    (7, 3, [5, 0, 0, 0, 3, 0, 1, 8], 167, 3),
]


def points(p, n):
    """All points as tuples x1, x2, x3, in the order of their numbers."""
    return [tuple(reversed(turned)) for turned in product(range(p), repeat=n)]


def reckoned(p, n, f):
    """The values of f at all points, by whole numbers that are reduced at the very end."""
    answer = []
    for point in points(p, n):
        total = 0
        for start in range(0, len(f), n + 1):
            part = f[start]
            for number, often in zip(point, f[start + 1:start + n + 1]):
                part *= number ** often
            total += part
        answer.append(total % p)
    return answer


def all_terms(n):
    """Every term without its factor, in the terms' order."""
    return sorted(product(range(13), repeat=n), key=lambda often: (sum(often),) + often)


def row_of(p, chosen):
    """A row with the terms chosen, with factors that go round through 1 to p - 1."""
    row = []
    for k, often in enumerate(chosen):
        row.extend([1 + (k * 3 + len(chosen)) % (p - 1)] + list(often))
    return row


def made_rows(p, n):
    """Rows of many lengths, up to the longest there may be."""
    terms = all_terms(n)
    most = min(400 // (n + 1), len(terms))
    rows = [[]]
    for step in (1, 2, 3, 5, 7, 11, 29):
        rows.append(row_of(p, terms[step % 4::step][:most]))
        rows.append(row_of(p, terms[step::step + 1][-3:]))
    return rows


def made_pairs(p, n):
    """Pairs of rows: some share all terms, some a few, some none."""
    rows = made_rows(p, n)
    pairs = list(zip(rows, rows[1:])) + list(zip(rows[2:], rows)) + list(zip(rows, reversed(rows)))
    pairs += short_pairs(p, n)
    return pairs + [(f, f) for f in rows[:5]] + [(f, opposite(p, n, f)) for f in rows[:5]]


def short_pairs(p, n):
    """Pairs of short rows with some terms in common, so that both added have no more than 400 numbers."""
    terms = all_terms(n)
    pairs = []
    for start, step in ((0, 1), (1, 2), (3, 1), (0, len(terms) // 13)):
        f = row_of(p, terms[start::step][:12])
        for shift in (0, 1, 5):
            pairs.append((f, row_of(p, terms[start + shift::step][:7])))
    return pairs


def low_pairs(p, n):
    """Pairs of rows whose degrees come to no more than 12 together: sparse ones, full ones, many shared terms."""
    pairs = []
    for most in (0, 1, 2, 4, 6, 9, 12):
        for step in (1, 2, 5):
            low = [often for often in all_terms(n) if sum(often) <= most][::step][-60:]
            rest = [often for often in all_terms(n) if sum(often) <= 12 - most][step - 1::step][:60]
            pairs.append((row_of(p, low), row_of(p, rest)))
    few = row_of(p, all_terms(n)[:3])
    return pairs + [([], []), ([], few), (few, []), (few, few), (few, opposite(p, n, few))]


def multiplied(p, n, f, g):
    """The answer of times by whole numbers that are reduced at the very end, walked in the terms' order."""
    factors = {}
    for first, first_factor in factors_of(n, f).items():
        for second, second_factor in factors_of(n, g).items():
            often = tuple(map(sum, zip(first, second)))
            factors[often] = factors.get(often, 0) + first_factor * second_factor
    row = []
    for often in sorted(factors, key=lambda often: (sum(often),) + often):
        if factors[often] % p:
            row.extend((factors[often] % p,) + often)
    return counted(n, row)


def low_unknowns(p, n):
    """Every term with each unknown less than p times, without its factor, in the terms' order."""
    return [often for often in all_terms(n) if max(often) < p]


def greatest_degree(n, row):
    """The degree of a row, 0 if it has no terms."""
    return max([sum(often) for often in factors_of(n, row)], default=0)


def made_sets(p, n, most=130):
    """Sets of points of many sizes, none with more than `most` points, none with all of them."""
    count = p ** n
    sets = [[], [0], [count - 1], [0, count - 1], [count // 2], list(range(count - 1)), list(range(1, count))]
    for step in (1, 2, 3, 4, p, p + 1, 2 * p + 1):
        sets.append(list(range(step % 3, count, step))[:min(most, count - 1)])
        sets.append([x for x in range(count) if (x * x + step * x + x // 3) % 11 < 4])
        sets.append([x for x in range(count) if (x * x * x + step) % 13 < 2])
    return [s for s in sets if len(s) <= most and len(s) < count]


def least_reckoned(p, n, s):
    """The answer of least, point by point.

    At first every term stands for itself. Each point takes away the first one that isn't 0 there, and of it as
    much from those behind it as makes them 0 there. The first that is left then is the set's polynomial.
    """
    unknowns = low_unknowns(p, n)
    every = points(p, n)
    rows = [[int(k == own) for k in range(len(unknowns))] for own in range(len(unknowns))]
    for x in s:
        values = [powers(every[x], often) % p for often in unknowns]
        found = [sum(map(int.__mul__, row, values)) % p for row in rows]
        place = [k for k, number in enumerate(found) if number][0]
        taken = rows[place]
        share = pow(found[place], -1, p)
        kept = []
        for row, number in zip(rows[place + 1:], found[place + 1:]):
            part = number * share % p
            kept.append([(a - part * b) % p for a, b in zip(row, taken)] if part else row)
        rows = rows[:place] + kept
    row = []
    for factor, often in zip(rows[0], unknowns):
        if factor:
            row.extend((factor,) + often)
    return [greatest_degree(n, row)] + row


def powers(point, often):
    """What the unknowns come to at a point, each as often as told; not reduced."""
    answer = 1
    for number, count in zip(point, often):
        answer *= number ** count
    return answer


def opposite(p, n, f):
    """The row that comes to 0 when it's added to f."""
    return [p - number if k % (n + 1) == 0 else number for k, number in enumerate(f)]


def factors_of(n, f):
    """The factor of each term in row f, by how often the unknowns stand in it."""
    return {tuple(f[k + 1:k + n + 1]): f[k] for k in range(0, len(f), n + 1)}


def counted(n, row):
    """How many terms there are, then the row."""
    return [len(row) // (n + 1)] + row


def is_as_told(p, n, row):
    """Whether a row is a polynomial: by looking for its terms among all there are, one behind the other."""
    if len(row) % (n + 1) != 0:
        return False
    waiting = iter(all_terms(n))
    for k in range(0, len(row), n + 1):
        if row[k] not in range(1, p) or tuple(row[k + 1:k + n + 1]) not in waiting:
            return False
    return True


def nought_row(p, n, often=1):
    """A row with terms that's 0 everywhere: the first unknown `often` times, and p - 1 times more."""
    rest = [0] * (n - 1)
    return [p - 1, often] + rest + [1, often + p - 1] + rest


# The cause, p, n, the row: each one is no polynomial, the short ones for that cause alone.
NO_POLYNOMIALS = [
    ("a factor alone", 5, 1, [1]),
    ("a factor alone behind a term", 5, 1, [1, 0, 1]),
    ("one number too few, n is 2", 5, 2, [1, 0, 0, 1, 0]),
    ("one number too many, n is 2", 5, 2, [1, 0, 0, 1]),
    ("two numbers too many, n is 3", 5, 3, [1, 0, 0, 0, 1, 1]),
    ("terms for one unknown, n is 2", 5, 2, [1, 0, 1, 1]),
    ("factor 0", 5, 1, [0, 0]),
    ("factor 0, p is 2", 2, 1, [0, 1]),
    ("factor 0 in the last term", 5, 2, [1, 0, 0, 0, 1, 1]),
    ("factor p, p is 2", 2, 1, [2, 0]),
    ("factor p, p is 3", 3, 1, [3, 0]),
    ("factor p, p is 5", 5, 2, [5, 0, 0]),
    ("factor p, p is 7", 7, 3, [7, 0, 0, 0]),
    ("factor p and 1", 7, 1, [8, 1]),
    ("factor p in the last term", 3, 1, [1, 0, 3, 1]),
    ("the greatest factor", 7, 1, [GREATEST, 1]),
    ("13 times, n is 1", 7, 1, [1, 13]),
    ("13 times, the first of 2", 7, 2, [1, 13, 0]),
    ("13 times, the second of 2", 7, 2, [1, 0, 13]),
    ("13 times, the first of 3", 7, 3, [1, 13, 0, 0]),
    ("13 times, the second of 3", 7, 3, [1, 0, 13, 0]),
    ("13 times, the third of 3", 7, 3, [1, 0, 0, 13]),
    ("13 times in the last term", 2, 1, [1, 0, 1, 13]),
    ("the greatest number of times", 7, 1, [1, GREATEST]),
    ("the greater degree first, n is 1", 5, 1, [1, 2, 1, 1]),
    ("the greater degree first, n is 2", 5, 2, [1, 0, 3, 1, 1, 1]),
    ("the greater degree first, n is 3", 5, 3, [1, 0, 0, 2, 1, 1, 0, 0]),
    ("the greater degree in the middle", 5, 1, [1, 0, 1, 3, 1, 2]),
    ("by the first unknown, n is 2", 5, 2, [1, 1, 0, 1, 0, 1]),
    ("by the first unknown, n is 3", 5, 3, [1, 1, 0, 1, 1, 0, 2, 0]),
    ("by the first unknown, the last two", 5, 2, [1, 0, 0, 1, 2, 1, 1, 1, 2]),
    ("by the second unknown", 5, 3, [1, 0, 1, 0, 1, 0, 0, 1]),
    ("by the second unknown, the first stands there", 5, 3, [1, 1, 2, 0, 1, 1, 1, 1]),
    ("twice the same term", 5, 1, [1, 1, 1, 1]),
    ("alike but for the factor, n is 1", 5, 1, [1, 1, 2, 1]),
    ("alike but for the factor, the greater first", 5, 1, [2, 1, 1, 1]),
    ("alike but for the factor, n is 2", 5, 2, [1, 1, 2, 3, 1, 2]),
    ("alike but for the factor, n is 3", 5, 3, [1, 1, 2, 3, 4, 1, 2, 3]),
    ("alike but for the factor, both 1", 5, 2, [1, 0, 0, 2, 0, 0]),
    ("alike with another between", 5, 1, [1, 1, 1, 2, 2, 1]),
    ("400 numbers, n is 1", 7, 1, [1, 0] * 200),
    ("400 numbers, n is 2", 7, 2, row_of(7, all_terms(2)[:133]) + [1]),
    ("400 times the greatest number", 7, 3, [GREATEST] * 400),
    ("400 times 0", 7, 3, [0] * 400),
]

# p, n: for these every row is refused.
NO_SPACES = [(p, 1) for p in (0, 1, 4, 6, 8, 9, 10, 11, 13, GREATEST)]
NO_SPACES += [(p, n) for p in PRIMES for n in (0, 4, 5, GREATEST)]
NO_SPACES += [(0, 0), (GREATEST, GREATEST)]


# The cause, p, n, the row: each one is no set of points.
NO_SETS = [
    ("twice the same, n is 1", 5, 1, [1, 1]),
    ("twice the same, the first point", 2, 2, [0, 0]),
    ("twice the same at the end", 3, 2, [0, 4, 8, 8]),
    ("twice the same in the middle", 7, 3, [0, 200, 200, 342]),
    ("twice the same at the beginning", 5, 3, [7, 7, 8]),
    ("the greater first", 5, 1, [2, 1]),
    ("the greater first, the first point", 2, 1, [1, 0]),
    ("the greater first at the end", 3, 2, [0, 1, 5, 4]),
    ("the greater first in the middle", 7, 2, [0, 9, 8, 48]),
    ("the greater first at the beginning", 7, 3, [1, 0, 342]),
    ("all points, falling", 3, 1, [2, 1, 0]),
    ("all points, one of them twice", 3, 1, [0, 1, 2, 2]),
    ("the greatest number", 7, 3, [GREATEST]),
    ("the greatest number behind points", 7, 3, [0, 1, GREATEST]),
    ("the greatest number ahead of points", 7, 3, [GREATEST, 0, 1]),
    ("400 times the same", 7, 3, [0] * 400),
    ("400 times the greatest number", 7, 3, [GREATEST] * 400),
    ("400 rising numbers", 7, 3, list(range(400))),
    ("400 rising numbers, n is 1", 2, 1, list(range(400))),
    ("400 great rising numbers", 7, 3, list(range(GREATEST - 399, GREATEST + 1))),
    ("400 falling numbers", 7, 3, list(range(399, -1, -1))),
]
for prime, count in SPACES:
    every = prime ** count
    NO_SETS += [
        ("no such point", prime, count, [every]),
        ("no such point behind one", prime, count, [0, every]),
        ("no such point, far off", prime, count, [every + every]),
        ("all points and no such point", prime, count, list(range(every + 1))),
        ("all points but the first, and no such point", prime, count, list(range(1, every + 1))),
    ]


class Untouched(list):
    """A list that fails on the spot when it is changed, even for a while."""

    def refuse(self, *given, **named):
        raise AssertionError("what was handed in is changed")

    append = extend = insert = pop = remove = clear = sort = reverse = refuse
    __setitem__ = __delitem__ = __iadd__ = __imul__ = refuse
