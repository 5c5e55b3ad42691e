"""The calls on sums of roots of unity, told as rows of whole numbers.

A polynomial is a list of its coefficients, the lowest power's first.
"""

LARGEST_ORDER = 120
NOT_AS_TOLD = -1


def is_order(d):
    return 1 <= d <= LARGEST_ORDER


def divisors(d):
    return [k for k in range(1, d + 1) if d % k == 0]


def power_less_one(d):
    """X^d - 1, for d from 1 on."""
    return [-1] + [0] * (d - 1) + [1]


def quotient(whole, part):
    """What part must be multiplied with to make whole; part's highest coefficient is 1 and it divides whole."""
    left = list(whole)
    degree = len(part) - 1
    answer = [0] * (len(whole) - degree)
    # From the top down: as part begins with 1, each step's factor is the coefficient itself and stays whole.
    for place in range(len(answer) - 1, -1, -1):
        factor = left[place + degree]
        answer[place] = factor
        for k in range(len(part)):
            left[place + k] -= factor * part[k]
    return answer


def cyclotomic(d):
    """The d-th cyclotomic polynomial: X^d - 1 without those of all smaller divisors of d."""
    found = {}
    # Rising, so that those of k's smaller divisors, which divide d too, are there before k is reached.
    for k in divisors(d):
        left = power_less_one(k)
        for j in divisors(k):
            if j < k:
                left = quotient(left, found[j])
        found[k] = left
    return found[d]


def rank(d):
    """0 and the degree of the d-th cyclotomic polynomial, or a refusal."""
    if not is_order(d):
        return [NOT_AS_TOLD]
    return [0, len(cyclotomic(d)) - 1]


def poly(d):
    """0 and the coefficients of the d-th cyclotomic polynomial, or a refusal."""
    if not is_order(d):
        return [NOT_AS_TOLD]
    return [0] + cyclotomic(d)
