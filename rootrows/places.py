"""Places: the real roots of f, from the least on, and the values of numbers there.

A value that is a fraction is known at once. Any other is never whole, so bounds around it that come nearer and nearer
have the same whole number below them in the end.

A polynomial is a list of whole numbers from the constant on; those of Sturm's chain have a last number that is not 0,
and [] is 0.
"""

from rootrows.divisors import without_divisor
from rootrows.fields import polynomial_of
from rootrows.reckoning import added, is_zero, negated

# No root is as great in size: it would outweigh the rest of f, as the field's numbers are 1,000 at most.
ROOT_BOUND = 1001
# How many binary digits of a root behind the point are found first.
FIRST_BITS = 64


def count_places(field):
    """How many real roots f has, by the theorem of Sturm; f must be no product, so no root is a double one."""
    chain = sturm_chain(polynomial_of(field))
    far_above = [part[-1] for part in chain]
    return count_changes(far_below(chain)) - count_changes(far_above)


def sturm_chain(f):
    """f, its derivative, and then the remainders of the two before, negated, down to a constant."""
    chain = [f, derivative_of(f)]
    while len(chain[-1]) > 1:
        rest = scaled_remainder(chain[-2], chain[-1])
        chain.append([-number for number in rest])
    return chain


def far_below(chain):
    """Numbers with the signs that the chain has below all its roots."""
    return [part[-1] if len(part) % 2 == 1 else -part[-1] for part in chain]


def count_changes(values):
    """How often the sign changes from one value to the next; none of them is 0."""
    return len([k for k in range(1, len(values)) if (values[k - 1] > 0) != (values[k] > 0)])


def sign_at(k, field, a):
    """-1, 0 or 1: the value of a at place k is below, at or above 0."""
    if is_zero(a):
        return 0
    return -1 if floor_at(k, field, a) < 0 else 1


def nearest_at(k, field, a):
    """The whole number nearest to the value of a at place k; of two as near the one further from 0."""
    # The floor of half more is the nearest above 0; below 0 it is found across 0, so that halves go away from 0 too.
    half = [1] + [0] * (len(field) - 1) + [2]
    if sign_at(k, field, a) < 0:
        return -floor_at(k, field, added(negated(a), half))
    return floor_at(k, field, added(a, half))


def floor_at(k, field, a):
    """The greatest whole number that is not above the value of a at place k.

    1, x, ..., x^(d-1) are independent, so the value is a fraction just when only the first numerator is not 0.
    """
    if not any(a[1:-1]):
        return a[0] // a[-1]
    chain = sturm_chain(polynomial_of(field))
    bits = FIRST_BITS
    low = root_between(k, chain, -ROOT_BOUND << bits, ROOT_BOUND << bits, bits)
    floors = floor_bounds(a, low, bits)
    while floors[0] != floors[1]:
        low = root_between(k, chain, low << bits, (low + 1) << bits, 2 * bits)
        bits = 2 * bits
        floors = floor_bounds(a, low, bits)
    return floors[0]


def root_between(k, chain, low, high, bits):
    """The greatest whole number below root k times 2^bits, which lies between low and high.

    f is of degree 2 or more here and no product, so no fraction is a root.
    """
    below = low
    above = high
    while above - below > 1:
        middle = (below + above) // 2
        if count_roots_below(chain, middle, 1 << bits) > k:
            above = middle
        else:
            below = middle
    return below


def count_roots_below(chain, top, bottom):
    """How many real roots lie below the fraction, which is none, by the theorem of Sturm."""
    values = [scaled_value(part, top, bottom) for part in chain]
    here = [number for number in values if number != 0]
    return count_changes(far_below(chain)) - count_changes(here)


def scaled_value(f, top, bottom):
    """The value of f at the fraction, times bottom to the power of its degree."""
    total = 0
    scale = 1
    for factor in reversed(f):
        total = total * top + factor * scale
        scale = scale * bottom
    return total


def floor_bounds(a, low, bits):
    """The floors of two bounds of a's value at the root that lies between low and low + 1, divided by 2^bits.

    The value at low differs from that at the root by no more than the way between, 1 / 2^bits, times the greatest slope
    of a's polynomial within the bound of the roots. All is scaled by 2^bits to the power d - 1.
    """
    numerators = a[:-1]
    middle = scaled_value(numerators, low, 1 << bits)
    slope = 0
    for k in range(len(numerators) - 1, 0, -1):
        slope = slope * ROOT_BOUND + k * abs(numerators[k])
    gap = slope << (bits * (len(numerators) - 2))
    scale = a[-1] << (bits * (len(numerators) - 1))
    return [(middle - gap) // scale, (middle + gap) // scale]


def derivative_of(f):
    return [k * f[k] for k in range(1, len(f))]


def scaled_remainder(f, g):
    """The remainder of f divided by g, times a fraction above 0 that makes it whole and small.

    The factor is kept above 0 since Sturm's chain lives on the signs.
    """
    rest = list(f)
    while len(rest) >= len(g):
        shift = len(rest) - len(g)
        factor = rest[-1] if g[-1] > 0 else -rest[-1]
        rest = [number * abs(g[-1]) for number in rest]
        for k in range(len(g)):
            rest[shift + k] -= factor * g[k]
        rest = without_end_zeros(rest)
    return without_divisor(rest)


def without_end_zeros(values):
    end = len(values)
    while end > 0 and values[end - 1] == 0:
        end -= 1
    return values[:end]
