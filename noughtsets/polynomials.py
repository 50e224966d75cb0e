"""The calls: each takes whole numbers and rows of them, and answers a list of whole numbers."""

PRIMES = (2, 3, 5, 7)
MOST_UNKNOWNS = 3
MOST_OFTEN = 12
MOST_TOGETHER = 12

NOT_AS_TOLD = -22
NO_SUCH_POINT = -2
DEGREES_TOO_HIGH = -28
ALL_POINTS = -33


def value(p, n, x, f):
    """Answer f's value at point x."""
    if not is_polynomial(p, n, f):
        return [NOT_AS_TOLD]
    if x >= count_points(p, n):
        return [NO_SUCH_POINT]
    return [row_value(p, cut_terms(n, f), point_numbers(p, n, x))]


def zeros(p, n, f):
    """Answer at how many points f is 0, then these, rising."""
    if not is_polynomial(p, n, f):
        return [NOT_AS_TOLD]
    terms = cut_terms(n, f)
    found = []
    for x in range(count_points(p, n)):
        if row_value(p, terms, point_numbers(p, n, x)) == 0:
            found.append(x)
    return [len(found)] + found


def reduced(p, n, f):
    """Answer how many terms f has when it's reduced, then its row."""
    if not is_polynomial(p, n, f):
        return [NOT_AS_TOLD]
    return counted_row(joined_terms(p, [lowered_term(p, term) for term in cut_terms(n, f)]))


def plus(p, n, f, g):
    """Answer how many terms f and g added have, then the row."""
    if not is_polynomial(p, n, f) or not is_polynomial(p, n, g):
        return [NOT_AS_TOLD]
    return counted_row(joined_terms(p, cut_terms(n, f) + cut_terms(n, g)))


def times(p, n, f, g):
    """Answer how many terms f and g multiplied have, then the row."""
    if not is_polynomial(p, n, f) or not is_polynomial(p, n, g):
        return [NOT_AS_TOLD]
    first = cut_terms(n, f)
    second = cut_terms(n, g)
    if degree(first) + degree(second) > MOST_TOGETHER:
        return [DEGREES_TOO_HIGH]
    return counted_row(joined_terms(p, multiplied_terms(first, second)))


def least(p, n, s):
    """Answer the least degree of set s, then the row of its polynomial."""
    if not is_set(p, n, s):
        return [NOT_AS_TOLD]
    if len(s) == count_points(p, n):
        return [ALL_POINTS]
    terms = set_terms(p, n, s)
    return [degree(terms)] + joined_row(terms)


def room(p, n, d):
    """Answer how many terms there are, without factors, with each unknown less than p times, of degree d at most."""
    if not is_space(p, n):
        return [NOT_AS_TOLD]
    return [len([term for term in low_terms(p, n) if degree([term]) <= d])]


def is_polynomial(p, n, f):
    """Tell whether p and n are allowed and f is the row of a polynomial for them."""
    # p and n come first: the row can't be cut into terms by an n that isn't allowed.
    if not is_space(p, n) or len(f) % (n + 1) != 0:
        return False
    terms = cut_terms(n, f)
    for term in terms:
        if not is_term(p, term):
            return False
    return is_in_order(terms)


def is_space(p, n):
    """Tell whether there are points with n numbers below p."""
    return p in PRIMES and 1 <= n and n <= MOST_UNKNOWNS


def is_set(p, n, s):
    """Tell whether p and n are allowed and s is the row of a set of points for them."""
    if not is_space(p, n):
        return False
    for k in range(1, len(s)):
        if not s[k - 1] < s[k]:
            return False
    # The row rises, so the last number is the greatest.
    return len(s) == 0 or s[len(s) - 1] < count_points(p, n)


def is_term(p, term):
    """Tell whether a term's factor, and how often each unknown stands in it, are allowed."""
    return 1 <= term[0] and term[0] < p and max(term[1:]) <= MOST_OFTEN


def is_in_order(terms):
    """Tell whether each term stands behind the one before it by their order."""
    for k in range(1, len(terms)):
        # Two terms alike but for the factor have the same place, so they fail here too.
        if not term_place(terms[k - 1]) < term_place(terms[k]):
            return False
    return True


def term_place(term):
    """Give what the order of terms goes by: the degree, then the unknowns from the first on."""
    return [sum(term[1:])] + term[1:]


def degree(terms):
    """Give the greatest degree of a term, 0 if there is none."""
    return max([sum(term[1:]) for term in terms], default=0)


def cut_terms(n, f):
    """Give the terms of row f, each a list of its own: the factor, then n numbers."""
    return [f[k:k + n + 1] for k in range(0, len(f), n + 1)]


def count_points(p, n):
    """Give how many points there are."""
    count = 1
    for k in range(n):
        count = count * p
    return count


def point_numbers(p, n, x):
    """Give the n numbers of point x, the first one first."""
    numbers = []
    rest = x
    for k in range(n):
        numbers.append(rest % p)
        rest = rest // p
    return numbers


def row_value(p, terms, point):
    """Give what all terms come to at a point."""
    total = 0
    for term in terms:
        total = (total + term_value(p, term, point)) % p
    return total


def term_value(p, term, point):
    """Give what one term comes to at a point."""
    product = term[0]
    for k in range(len(point)):
        for turn in range(term[k + 1]):
            product = product * point[k] % p
    return product


def lowered_term(p, term):
    """Give the term with each unknown in it less than p times."""
    return [term[0]] + [lowered(p, often) for often in term[1:]]


def lowered(p, often):
    """Give how often an unknown stands in a term when it's reduced."""
    left = often
    # A number to the power of p is the number itself, so p - 1 times less changes no value. It stops at 1 or
    # above: an unknown that is gone would be 1 where it was 0.
    while left >= p:
        left = left - (p - 1)
    return left


def joined_terms(p, terms):
    """Give the terms in their order, like ones as one, those with factor 0 left out."""
    factors = {}
    for term in terms:
        unknowns = tuple(term[1:])
        factors[unknowns] = (factors.get(unknowns, 0) + term[0]) % p
    kept = [[factors[unknowns]] + list(unknowns) for unknowns in factors if factors[unknowns] != 0]
    return sorted(kept, key=term_place)


def counted_row(terms):
    """Give how many terms there are, then their row."""
    return [len(terms)] + joined_row(terms)


def joined_row(terms):
    """Give the row of the terms."""
    row = []
    for term in terms:
        row.extend(term)
    return row


def multiplied_terms(first, second):
    """Give each term of the one times each term of the other; like ones stay apart."""
    products = []
    for term in first:
        for other in second:
            products.append(multiplied_term(term, other))
    return products


def multiplied_term(term, other):
    """Give one term times another; the factor may be p or more."""
    return [term[0] * other[0]] + [term[k] + other[k] for k in range(1, len(term))]


def set_terms(p, n, s):
    """Give the terms of the polynomial of set s, which doesn't have all points."""
    # At as many points as s has, one of that many terms and one more is made up of those before it.
    terms = low_terms(p, n)[:len(s) + 1]
    rows = [term_values(p, terms, point_numbers(p, n, x)) for x in s]
    factors = nought_factors(p, rows)
    return [[factors[k]] + terms[k][1:] for k in range(len(factors)) if factors[k] != 0]


def low_terms(p, n):
    """Give all terms with each unknown less than p times, in their order, each with factor 1."""
    # How often the unknowns stand in such a term are n numbers below p, just as a point's numbers are.
    return sorted([[1] + point_numbers(p, n, k) for k in range(count_points(p, n))], key=term_place)


def term_values(p, terms, point):
    """Give what each term comes to at a point."""
    return [term_value(p, term, point) for term in terms]


def nought_factors(p, rows):
    """Give factors, as few as can be, by which the first numbers of each row come to 0; the last one is 1.

    Each row has to have more numbers than there are rows.
    """
    # Each turn takes the first number off every row. A solved row began with 1 where all other rows were made to
    # begin with 0: what is left in it tells how much of that first number is in each of the numbers behind it.
    solved = []
    left = rows
    place = first_not_nought(left)
    while place < len(left):
        chosen = scaled_row(p, left[place])
        solved = [shortened_row(p, row, chosen) for row in solved] + [chosen[1:]]
        left = [shortened_row(p, row, chosen) for row in left[:place] + left[place + 1:]]
        place = first_not_nought(left)
    return [(p - row[0]) % p for row in solved] + [1]


def first_not_nought(rows):
    """Give the place of the first row that doesn't begin with 0, or how many rows there are if all do."""
    place = 0
    while place < len(rows) and rows[place][0] == 0:
        place = place + 1
    return place


def scaled_row(p, row):
    """Give the row times the number that makes it begin with 1."""
    inverse = 1
    while inverse * row[0] % p != 1:
        inverse = inverse + 1
    return [inverse * number % p for number in row]


def shortened_row(p, row, chosen):
    """Give the row less so many times the chosen one that it begins with 0, and without that 0."""
    begin = row[0]
    return [(row[k] - begin * chosen[k]) % p for k in range(1, len(row))]
