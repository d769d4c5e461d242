"""Fields: which rows tell one.

A polynomial is a list of whole numbers from the constant on. A field's row leaves out the highest number of f, which
is 1.
"""

GREATEST_DEGREE = 4
GREATEST_SIZE = 1000


def field_refusal(field):
    """The refusal that the field alone calls for, 0 if there is none."""
    if not is_told_rightly(field):
        return -1
    if is_product(field):
        return -2
    return 0


def is_told_rightly(field):
    """Whether the row has as many numbers as a field may have, none of them too great in size."""
    if len(field) < 1 or len(field) > GREATEST_DEGREE:
        return False
    return all([abs(number) <= GREATEST_SIZE for number in field])


def is_product(field):
    """Whether f is a product of two polynomials with fractions, of lesser degrees above 0.

    As f is whole with 1 in front, whole factors with 1 in front are all that need be looked for
    (the lemma of Gauss). Their constants divide that of f.
    """
    if len(field) == 1:
        return False
    if field[0] == 0:
        return True
    if has_whole_root(field):
        return True
    return len(field) == 4 and is_product_of_quadratics(field)


def has_whole_root(field):
    """Whether f has a whole root, if its constant is not 0."""
    f = polynomial_of(field)
    return any([value_at(f, number) == 0 for number in divisors_of(field[0])])


def is_product_of_quadratics(field):
    """Whether f = (x^2 + p x + q) (x^2 + r x + s) with whole numbers, if its degree is 4, its constant not 0.

    Each q comes with its s, and once more the other way round, so p may be taken as not below r.
    """
    for q in divisors_of(field[0]):
        s = field[0] // q
        gap_squared = field[3] * field[3] - 4 * (field[2] - q - s)
        gap = square_root_floor(max(gap_squared, 0))
        if gap * gap != gap_squared:
            continue
        # Nothing is left over here: gap is odd just when p + r is.
        p = (field[3] + gap) // 2
        r = field[3] - p
        if p * s + q * r == field[1]:
            return True
    return False


def polynomial_of(field):
    return list(field) + [1]


def value_at(f, number):
    value = 0
    for factor in reversed(f):
        value = value * number + factor
    return value


def divisors_of(number):
    """All whole numbers, above and below 0, that divide the number, which is not 0."""
    above = [k for k in range(1, abs(number) + 1) if number % k == 0]
    return above + [-k for k in above]


def square_root_floor(number):
    """The greatest whole number whose square is not above the number, which is not below 0."""
    root = number
    nearer = (root + 1) // 2
    while nearer < root:
        root = nearer
        nearer = (root + number // root) // 2
    return root
