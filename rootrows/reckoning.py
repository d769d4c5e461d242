"""Rows: what is reckoned with numbers of a field.

A row here is any row of its number, if nothing else is said: one_form makes the one that is told, and is left to the
end, since common divisors cost more than the rest. The numerators of a row, all but its last number, are a whole
polynomial of degree below d, as a list of d numbers from the constant on.
"""

from rootrows.divisors import without_divisor


def is_row(operand, degree):
    """Whether it is the row of a number of a field of that degree."""
    return len(operand) == degree + 1 and operand[-1] > 0


def are_rows(operands, degree):
    return all([is_row(operand, degree) for operand in operands])


def one_form(a):
    """The row of the same number with the least denominator.

    The denominator is above 0, so the numbers have a divisor even if the number is 0.
    """
    return without_divisor(a)


def whole_row(number, degree):
    """The row of a whole number."""
    return [number] + [0] * (degree - 1) + [1]


def root_row(field):
    """The row of x. In a field of degree 1 it is a whole number."""
    return remainder_of(field, [0, 1] + [0] * (len(field) - 2)) + [1]


def is_zero(a):
    return not any(a[:-1])


def added(a, b):
    numerators = [m * b[-1] + n * a[-1] for m, n in zip(a[:-1], b[:-1])]
    return numerators + [a[-1] * b[-1]]


def negated(a):
    return [-number for number in a[:-1]] + [a[-1]]


def multiplied(field, a, b):
    return product_of(field, a[:-1], b[:-1]) + [a[-1] * b[-1]]


def raised(field, a, k):
    """a to the power k, which is not below 0: squared for each binary digit of k, from the highest on."""
    answer = whole_row(1, len(field))
    for shift in range(k.bit_length() - 1, -1, -1):
        answer = multiplied(field, answer, answer)
        if (k >> shift) & 1 == 1:
            answer = multiplied(field, answer, a)
    return answer


def inverse_of(field, a):
    """1 divided by a, which is not 0."""
    cofactor = cofactor_of(field, a[:-1])
    divisor = product_of(field, a[:-1], cofactor)[0]
    # A row's last number is above 0, so the sign goes to the numerators.
    factor = a[-1] if divisor > 0 else -a[-1]
    return [factor * number for number in cofactor] + [abs(divisor)]


def cofactor_of(field, numerators):
    """The numerators of a number whose product with these is whole, and not 0 if these are not.

    These are a root of the polynomial t^d - s_1 t^(d-1) - ... - s_d of the map that takes each number to its product
    with them. The cofactor is t^(d-1) - s_1 t^(d-2) - ... - s_(d-1) at them, so the product is s_d. The numbers s_k
    come one after another from traces (Faddeev, LeVerrier).
    """
    cofactor = [1] + [0] * (len(field) - 1)
    for step in range(1, len(field)):
        product = product_of(field, numerators, cofactor)
        # Nothing is left over: the numbers s_k are whole.
        part = trace_of(field, product) // step
        cofactor = [product[0] - part] + product[1:]
    return cofactor


def trace_of(field, numerators):
    """The sum of the diagonal of the map that takes each number to its product with these numerators."""
    total = 0
    image = list(numerators)
    for k in range(len(field)):
        total += image[k]
        image = remainder_of(field, [0] + image)
    return total


def norm_of(field, numerators):
    """The determinant of the map that takes each number to its product with these numerators.

    It is s_d, which the product with the cofactor comes to, but for the sign: d roots of the map's polynomial multiply
    to -s_d times -1 to the power d.
    """
    product = product_of(field, numerators, cofactor_of(field, numerators))[0]
    return product if len(field) % 2 == 1 else -product


def product_of(field, p, q):
    """The product of two lists of numerators."""
    product = [0] * (len(p) + len(q) - 1)
    for i in range(len(p)):
        for k in range(len(q)):
            product[i + k] += p[i] * q[k]
    return remainder_of(field, product)


def remainder_of(field, polynomial):
    """The remainder of a polynomial with d numbers or more, divided by f: d numbers.

    x^d is -c[0] - c[1] x - ..., and whole numbers stay whole since f has 1 in front.
    """
    rest = list(polynomial)
    while len(rest) > len(field):
        highest = rest.pop()
        shift = len(rest) - len(field)
        for k in range(len(field)):
            rest[shift + k] -= highest * field[k]
    return rest
