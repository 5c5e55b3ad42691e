"""The calls on sums of roots of unity, told as rows of whole numbers, on motions, and on lengths of indices.

A polynomial is a list of its coefficients, the lowest power's first. A form is a matrix that is the same row by row
and column by column, as six numbers in a cell's order: 11 22 33 23 13 12.
"""

LARGEST_ORDER = 120
LARGEST_NUMBER = 1048575
LARGEST_KIND = 255
MOST_WEIGHTS = 255
MOST_POINTS = 64
MOTION_NUMBERS = 13
MOST_MOTIONS = 96
MOST_INDICES = 4096
NOT_AS_TOLD = -1
NO_DESCRIPTION = -2
TOO_MANY = -9


def is_order(d):
    return 1 <= d <= LARGEST_ORDER


def divisors(d):
    return [k for k in range(1, d + 1) if d % k == 0]


def power_less_one(d):
    """X^d - 1, for d from 1 on."""
    return [-1] + [0] * (d - 1) + [1]


def divided(whole, part):
    """The quotient and what's left, which has as many coefficients as part's degree; part's highest one is 1.

    whole has at least as many coefficients as part's degree.
    """
    left = list(whole)
    degree = len(part) - 1
    quotient = [0] * (len(whole) - degree)
    # From the top down: as part begins with 1, each step's factor is the coefficient itself and stays whole.
    for place in range(len(quotient) - 1, -1, -1):
        factor = left[place + degree]
        quotient[place] = factor
        for k in range(len(part)):
            left[place + k] -= factor * part[k]
    return (quotient, left[:degree])


def cyclotomic(d):
    """The d-th cyclotomic polynomial: X^d - 1 without those of all smaller divisors of d."""
    found = {}
    # Rising, so that those of k's smaller divisors, which divide d too, are there before k is reached.
    for k in divisors(d):
        left = power_less_one(k)
        for j in divisors(k):
            if j < k:
                left = divided(left, found[j])[0]
        found[k] = left
    return found[d]


def one_row(powers):
    """The row of a sum that is told by its d coefficients of z^0 to z^(d - 1)."""
    return divided(powers, cyclotomic(len(powers)))[1]


def are_within(numbers, least, most):
    return all([least <= number <= most for number in numbers])


def are_small(numbers):
    return are_within(numbers, -LARGEST_NUMBER, LARGEST_NUMBER)


def is_cell(cell):
    """Whether these are the numbers of a cell, be it right or not."""
    return len(cell) == 7 and are_small(cell) and cell[6] >= 1


def is_row_of_points(points):
    """Whether d is followed by whole points, be they a description's or not; none at all are whole too."""
    return len(points) % 4 == 1


def are_weights(weights):
    return len(weights) <= MOST_WEIGHTS and are_small(weights)


def is_index(h):
    return len(h) == 3 and are_small(h)


def each_motion(motions):
    """Each motion's thirteen numbers: the matrix row by row, t's three, e."""
    return [motions[k:k + MOTION_NUMBERS] for k in range(0, len(motions), MOTION_NUMBERS)]


def are_motions(motions):
    """Whether these are whole motions, each with an e from 1 on; none at all are whole too."""
    if len(motions) % MOTION_NUMBERS != 0 or len(motions) > MOST_MOTIONS * MOTION_NUMBERS:
        return False
    return are_small(motions) and all([motion[12] >= 1 for motion in each_motion(motions)])


def adjugate(form):
    """The form's adjugate, a form too; of a cell its scale doesn't count."""
    g11 = form[0]
    g22 = form[1]
    g33 = form[2]
    g23 = form[3]
    g13 = form[4]
    g12 = form[5]
    return [
        g22 * g33 - g23 * g23, g11 * g33 - g13 * g13, g11 * g22 - g12 * g12,
        g12 * g13 - g11 * g23, g12 * g23 - g22 * g13, g13 * g23 - g33 * g12,
    ]


def determinant(form):
    beside = adjugate(form)
    return form[0] * beside[0] + form[5] * beside[5] + form[4] * beside[4]


def is_right(cell):
    # All lengths are above 0 just if the three leading minors are. That speaks of whole columns alone too: as G
    # is whole, if any column's length isn't above 0, then some whole column's isn't.
    return cell[0] > 0 and cell[0] * cell[1] > cell[5] * cell[5] and determinant(cell) > 0


def listed(points):
    """Each point's kind and three numbers."""
    return [points[k:k + 4] for k in range(1, len(points), 4)]


def is_point(point, d):
    return 1 <= point[0] <= LARGEST_KIND and are_within(point[1:], 0, d - 1)


def are_apart(found):
    places = [tuple(point[1:]) for point in found]
    return len(set(places)) == len(places)


def is_description(cell, points):
    d = points[0]
    found = listed(points)
    if not (is_right(cell) and is_order(d) and 1 <= len(found) <= MOST_POINTS):
        return False
    return all([is_point(point, d) for point in found]) and are_apart(found)


def refusal(cell, points, weights, indices):
    """The first refusal that fits what is handed over, or 0 if none does."""
    if not (is_cell(cell) and is_row_of_points(points) and are_weights(weights)):
        return NOT_AS_TOLD
    if not all([is_index(h) for h in indices]):
        return NOT_AS_TOLD
    if not is_description(cell, points):
        return NO_DESCRIPTION
    return 0


def weight_of(kind, weights):
    return weights[kind - 1] if kind <= len(weights) else 0


def sum_by_powers(points, weights, h):
    """The sum of h, by its d coefficients of z^0 to z^(d - 1)."""
    d = points[0]
    powers = [0] * d
    for point in listed(points):
        exponent = h[0] * point[1] + h[1] * point[2] + h[2] * point[3]
        powers[exponent % d] += weight_of(point[0], weights)
    return powers


def strength_by_powers(powers):
    """A sum times its conjugate, both by their d coefficients of z^0 to z^(d - 1)."""
    d = len(powers)
    strength = [0] * d
    for j in range(d):
        for k in range(d):
            strength[(j - k) % d] += powers[j] * powers[k]
    return strength


def strength_row(points, weights, h):
    return one_row(strength_by_powers(sum_by_powers(points, weights, h)))


def row_times_matrix(h, motion):
    return [h[0] * motion[k] + h[1] * motion[k + 3] + h[2] * motion[k + 6] for k in range(3)]


def makes_extinct(motion, h):
    shift = h[0] * motion[9] + h[1] * motion[10] + h[2] * motion[11]
    return row_times_matrix(h, motion) == h and shift % motion[12] != 0


def times(form, x, y):
    """The row x times the form's matrix times the column y."""
    straight = form[0] * x[0] * y[0] + form[1] * x[1] * y[1] + form[2] * x[2] * y[2]
    across = form[3] * (x[1] * y[2] + x[2] * y[1]) + form[4] * (x[0] * y[2] + x[2] * y[0])
    return straight + across + form[5] * (x[0] * y[1] + x[1] * y[0])


def length(form, x):
    return times(form, x, x)


def less(x, y, factor):
    return [x[k] - factor * y[k] for k in range(3)]


def shortened(form, x, a):
    """x less the multiple of a that leaves the shortest."""
    whole = length(form, a)
    return less(x, a, (2 * times(form, a, x) + whole) // (2 * whole))


def shortened_by_both(form, x, a, b):
    """x less the multiples of a and b that leave the shortest; b is no shorter than a, and shortened by it."""
    ab = times(form, a, b)
    aa = length(form, a)
    below = (aa * times(form, b, x) - ab * times(form, a, x)) // (aa * length(form, b) - ab * ab)
    # As a and b are far from lying in one line, b's multiple is one of the two beside the fraction that fits best.
    first = shortened(form, less(x, b, below), a)
    second = shortened(form, less(x, b, below + 1), a)
    return first if length(form, first) <= length(form, second) else second


def short_basis(form):
    """Three indices of which all others are made, the shortest there are, rising in length."""
    found = [[1, 0, 0], [0, 1, 0], [0, 0, 1]]
    while True:
        found = sorted(found, key=lambda x: length(form, x))
        a = found[0]
        b = shortened(form, found[1], a)
        c = found[2]
        if length(form, b) >= length(form, a):
            c = shortened_by_both(form, c, a, b)
            if length(form, c) >= length(form, b):
                return [a, b, c]
        found = [a, b, c]


def short_form(form):
    """The form by its short basis: it has the same lengths, each as often."""
    found = short_basis(form)
    a = found[0]
    b = found[1]
    c = found[2]
    return [
        length(form, a), length(form, b), length(form, c),
        times(form, b, c), times(form, a, c), times(form, a, b),
    ]


def walked(p, q, r, start, step):
    """The whole numbers n from start on, step by step, while p n^2 + 2 q n + r is at most 0."""
    found = []
    n = start
    while p * n * n + 2 * q * n + r <= 0:
        found.append(n)
        n += step
    return found


def fitting(p, q, r):
    """All whole numbers n with p n^2 + 2 q n + r at most 0, from the middle on; p is above 0."""
    middle = -q // p
    return walked(p, q, r, middle, -1) + walked(p, q, r, middle + 1, 1)


def lengths_in_line(form, bound, y, z):
    """The lengths up to the bound of all indices x y z with these y and z."""
    half = form[5] * y + form[4] * z
    rest = form[1] * y * y + 2 * form[3] * y * z + form[2] * z * z
    return [form[0] * x * x + 2 * half * x + rest for x in fitting(form[0], half, rest - bound)]


def is_crowded(form, bound):
    """Whether the multiples of the first index alone are too many."""
    return form[0] * (MOST_INDICES // 2 + 1) ** 2 <= bound


def lengths(form, bound):
    """The lengths up to the bound of all indices, 0 0 0 too, by a short form; broken off where they are too many."""
    beside = adjugate(form)
    found = []
    # z and y are walked as far as some x, whole or not, would fit. In a short form few of them have no whole one.
    for z in fitting(determinant(form), 0, -bound * beside[2]):
        for y in fitting(beside[2], -beside[3] * z, beside[1] * z * z - form[0] * bound):
            found.extend(lengths_in_line(form, bound, y, z))
            if len(found) > MOST_INDICES + 1:
                return found
    return found


def rank(d):
    """0 and the degree of the d-th cyclotomic polynomial, or a refusal."""
    if not is_order(d):
        return [NOT_AS_TOLD]
    return [0, len(cyclotomic(d)) - 1]


def poly(d):
    """0 and the coefficients of the d-th cyclotomic polynomial, or a refusal."""
    if not is_order(d):
        return [NOT_AS_TOLD]
    return [0] + cyclotomic(d)


def summed(cell, points, weights, h):
    """0 and the row of the sum of h, or a refusal."""
    refused = refusal(cell, points, weights, [h])
    if refused < 0:
        return [refused]
    return [0] + one_row(sum_by_powers(points, weights, h))


def power(cell, points, weights, h):
    """0 and the row of the strength of h, or a refusal."""
    refused = refusal(cell, points, weights, [h])
    if refused < 0:
        return [refused]
    return [0] + strength_row(points, weights, h)


def zero(cell, points, weights, h):
    """0 and 1 if the sum of h is nothing, else 0; or a refusal."""
    refused = refusal(cell, points, weights, [h])
    if refused < 0:
        return [refused]
    return [0, 0 if any(one_row(sum_by_powers(points, weights, h))) else 1]


def equal(cell, points, weights, h, k):
    """0 and 1 if h and k have the same strength, else 0; or a refusal."""
    refused = refusal(cell, points, weights, [h, k])
    if refused < 0:
        return [refused]
    return [0, 1 if strength_row(points, weights, h) == strength_row(points, weights, k) else 0]


def absent(motions, h):
    """0 and 1 if h is extinct by the motions, else 0; or a refusal."""
    if not (are_motions(motions) and is_index(h)):
        return [NOT_AS_TOLD]
    return [0, 1 if any([makes_extinct(motion, h) for motion in each_motion(motions)]) else 0]


def going(motions, h):
    """0 and the indices with which h goes by the motions, in order, each once; or a refusal."""
    if not (are_motions(motions) and is_index(h)):
        return [NOT_AS_TOLD]
    met = [tuple(h)] + [tuple(row_times_matrix(h, motion)) for motion in each_motion(motions)]
    answer = [0]
    for index in sorted(set(met)):
        answer.extend(index)
    return answer


def lines(bound, cell):
    """0 and of each line up to the bound its length and how many indices have it, rising; or a refusal."""
    if not is_cell(cell):
        return [NOT_AS_TOLD]
    if not is_right(cell):
        return [NO_DESCRIPTION]
    form = short_form(adjugate(cell))
    # Asked ahead, as there the walks to all lengths would be long.
    if is_crowded(form, bound):
        return [TOO_MANY]
    found = lengths(form, bound)
    if len(found) > MOST_INDICES + 1:
        return [TOO_MANY]
    counts = {}
    for number in sorted(found):
        counts[number] = counts.get(number, 0) + 1
    answer = [0]
    for number in counts:
        # Only 0 0 0 has the length 0, and it is in no line.
        if number > 0:
            answer.extend([number, counts[number]])
    return answer
