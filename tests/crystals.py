"""What the tests of several calls need: descriptions, motions, and an exact way of checking rows by another road.

A row is checked modulo a prime p that leaves 1 by d: there the primitive roots of order d are whole numbers, as many
as the cyclotomic polynomial's degree, so the values of a row of that length at all of them tell it modulo p; and p is
larger than any coefficient that comes up.
"""

import math

CUBE = [1, 1, 1, 0, 0, 0, 1]
HEXAGON = [2, 2, 3, 0, 0, -1, 1]
FAR = 4611686018427387904
LARGE = 1048575
IDENTITY = (1, 0, 0, 0, 1, 0, 0, 0, 1)
INVERSION = (-1, 0, 0, 0, -1, 0, 0, 0, -1)

# Deterministic for numbers below 3.3 * 10^24.
WITNESSES = (2, 3, 5, 7, 11, 13, 17, 19, 23, 29, 31, 37, 41)


def described(d, *points):
    """The row of points, each a kind and three numbers."""
    return [d] + [number for point in points for number in point]


def scattered_points(d, count, kinds):
    """As many different points as asked for, at most d^3, spread over the cell by a fixed rule."""
    count = min(count, d ** 3)
    # A step prime to d^3 meets each place once.
    step = next(s for s in range(d ** 3 // 3 + 1, 2 * d ** 3 + 2) if math.gcd(s, d) == 1)
    points = []
    for k in range(count):
        place = (k * step + 1) % d ** 3
        points.append((1 + k % kinds, place % d, place // d % d, place // d ** 2))
    return described(d, *points)


def motion(matrix, t=(0, 0, 0), e=1):
    return list(matrix) + list(t) + [e]


def is_prime(n):
    if n < 2 or any(n % w == 0 for w in WITNESSES):
        return n in WITNESSES
    odd, twos = n - 1, 0
    while odd % 2 == 0:
        odd, twos = odd // 2, twos + 1
    for w in WITNESSES:
        x = pow(w, odd, n)
        if x not in (1, n - 1) and not any(pow(x, 2 ** k, n) == n - 1 for k in range(1, twos)):
            return False
    return True


def prime_for(d):
    p = 2 ** 75 // d * d + 1
    while not is_prime(p):
        p += d
    return p


def primitive_roots(d, p):
    """All roots of unity of order d modulo p."""
    for g in range(2, 10000):
        root = pow(g, (p - 1) // d, p)
        if all(pow(root, k, p) != 1 for k in range(1, d)):
            return [pow(root, k, p) for k in range(1, d + 1) if math.gcd(k, d) == 1]
    raise ValueError("no root found")


def value(row, root, p):
    return sum(c * pow(root, k, p) for k, c in enumerate(row)) % p


def sum_at(points, weights, h, root, p):
    """The sum of h straight from its definition, with root in the place of z."""
    total = 0
    for k in range(1, len(points), 4):
        kind, x, y, z = points[k:k + 4]
        if kind <= len(weights):
            total += weights[kind - 1] * pow(root, (h[0] * x + h[1] * y + h[2] * z) % points[0], p)
    return total % p
