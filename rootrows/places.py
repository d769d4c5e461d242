"""Places: the real roots of f, from the least on, and the values of numbers there.

A value that is a fraction is known at once. Any other is never whole, nor is what its parts leave over, so bounds
around it that come nearer and nearer begin with the same parts in the end, as many as are asked for.

A polynomial is a list of whole numbers from the constant on; those of Sturm's chain have a last number that is not 0,
and [] is 0.
"""

from rootrows.divisors import without_divisor
from rootrows.fields import polynomial_of
from rootrows.reckoning import added, is_zero, negated

# No root is as great in size: it would outweigh the rest of f, as the field's numbers are 1,000 at most.
ROOT_BOUND = 1001
# How many binary digits of a root behind the point are found first.
FIRST_BITS = 64


def count_places(field):
    """How many real roots f has, by the theorem of Sturm; f must be no product, so no root is a double one."""
    chain = sturm_chain(polynomial_of(field))
    far_above = [part[-1] for part in chain]
    return count_changes(far_below(chain)) - count_changes(far_above)


def sturm_chain(f):
    """f, its derivative, and then the remainders of the two before, negated, down to a constant."""
    chain = [f, derivative_of(f)]
    while len(chain[-1]) > 1:
        rest = scaled_remainder(chain[-2], chain[-1])
        chain.append([-number for number in rest])
    return chain


def far_below(chain):
    """Numbers with the signs that the chain has below all its roots."""
    return [part[-1] if len(part) % 2 == 1 else -part[-1] for part in chain]


def count_changes(values):
    """How often the sign changes from one value to the next; none of them is 0."""
    return len([k for k in range(1, len(values)) if (values[k - 1] > 0) != (values[k] > 0)])


def sign_at(k, field, a):
    """-1, 0 or 1: the value of a at place k is below, at or above 0."""
    if is_zero(a):
        return 0
    return -1 if floor_at(k, field, a) < 0 else 1


def nearest_at(k, field, a):
    """The whole number nearest to the value of a at place k; of two as near the one further from 0."""
    # The floor of half more is the nearest above 0; below 0 it is found across 0, so that halves go away from 0 too.
    half = [1] + [0] * (len(field) - 1) + [2]
    if sign_at(k, field, a) < 0:
        return -floor_at(k, field, added(negated(a), half))
    return floor_at(k, field, added(a, half))


def floor_at(k, field, a):
    """The greatest whole number that is not above the value of a at place k: the first of its parts."""
    return parts_at(k, 1, field, a)[0]


def parts_at(k, n, field, a):
    """The first n parts of the value of a at place k, or all if there are fewer.

    1, x, ..., x^(d-1) are independent, so the value is a fraction just when only the first numerator is not 0.
    """
    if not any(a[1:-1]):
        return fraction_parts(n, a[0], a[-1])
    chain = sturm_chain(polynomial_of(field))
    bits = FIRST_BITS
    low = root_between(k, chain, -ROOT_BOUND << bits, ROOT_BOUND << bits, bits)
    found = parts_within(n, value_bounds(a, low, bits))
    while len(found) < n:
        low = nearer_root(k, chain, low, bits)
        bits = 2 * bits
        found = parts_within(n, value_bounds(a, low, bits))
    return found


def fraction_parts(n, top, bottom):
    """The first n parts of a fraction, or all if there are fewer; its bottom is above 0."""
    found = []
    left = top
    right = bottom
    while len(found) < n and right != 0:
        found.append(left // right)
        rest = left % right
        left = right
        right = rest
    return found


def parts_within(n, bounds):
    """The first parts, n at most, that all numbers between the bounds [low, high, scale] have in common.

    Numbers that begin with the same parts lie side by side, so what both bounds begin with is common to all between.
    """
    below = fraction_parts(n, bounds[0], bounds[2])
    above = fraction_parts(n, bounds[1], bounds[2])
    end = 0
    while end < min(len(below), len(above)) and below[end] == above[end]:
        end += 1
    return below[:end]


def root_between(k, chain, low, high, bits):
    """The greatest whole number below root k times 2^bits, which lies between low and high.

    f is of degree 2 or more here and no product, so no fraction is a root.
    """
    below = low
    above = high
    while above - below > 1:
        middle = (below + above) // 2
        if is_root_below(k, chain, middle, bits):
            above = middle
        else:
            below = middle
    return below


def nearer_root(k, chain, low, bits):
    """The greatest whole number below root k times 2^(2 bits), if low is that of 2^bits, bits being FIRST_BITS or more.

    No two roots are as near as these bits tell (a bound of Mahler's gives more than 2^-39), so f has both signs around
    root k. The straight line between the two values comes near to it; then bounds are widened until it lies within.
    """
    first = scaled_value(chain[0], low, 1 << bits)
    second = scaled_value(chain[0], low + 1, 1 << bits)
    guess = (low << bits) + (first << bits) // (first - second)
    width = 1
    while is_root_below(k, chain, guess - width, 2 * bits) or not is_root_below(k, chain, guess + width, 2 * bits):
        width = 2 * width
    return root_between(k, chain, guess - width, guess + width, 2 * bits)


def is_root_below(k, chain, number, bits):
    """Whether root k lies below the number divided by 2^bits, which is no root, by the theorem of Sturm."""
    values = [scaled_value(part, number, 1 << bits) for part in chain]
    here = [value for value in values if value != 0]
    return count_changes(far_below(chain)) - count_changes(here) > k


def scaled_value(f, top, bottom):
    """The value of f at the fraction, times bottom to the power of its degree."""
    total = 0
    scale = 1
    for factor in reversed(f):
        total = total * top + factor * scale
        scale = scale * bottom
    return total


def value_bounds(a, low, bits):
    """Two bounds of a's value at the root that lies between low and low + 1, divided by 2^bits, and then their scale.

    The value at low differs from that at the root by no more than the way between, 1 / 2^bits, times the greatest slope
    of a's polynomial within the bound of the roots. All is scaled by 2^bits to the power d - 1.
    """
    numerators = a[:-1]
    middle = scaled_value(numerators, low, 1 << bits)
    slope = 0
    for k in range(len(numerators) - 1, 0, -1):
        slope = slope * ROOT_BOUND + k * abs(numerators[k])
    gap = slope << (bits * (len(numerators) - 2))
    scale = a[-1] << (bits * (len(numerators) - 1))
    return [middle - gap, middle + gap, scale]


def derivative_of(f):
    return [k * f[k] for k in range(1, len(f))]


def scaled_remainder(f, g):
    """The remainder of f divided by g, times a fraction above 0 that makes it whole and small.

    The factor is kept above 0 since Sturm's chain lives on the signs.
    """
    rest = list(f)
    while len(rest) >= len(g):
        shift = len(rest) - len(g)
        factor = rest[-1] if g[-1] > 0 else -rest[-1]
        rest = [number * abs(g[-1]) for number in rest]
        for k in range(len(g)):
            rest[shift + k] -= factor * g[k]
        rest = without_end_zeros(rest)
    return without_divisor(rest)


def without_end_zeros(values):
    end = len(values)
    while end > 0 and values[end - 1] == 0:
        end -= 1
    return values[:end]
