"""Common divisors of whole numbers."""


def without_divisor(values):
    """The values divided by their greatest common divisor, as a list of its own.

    The last value comes first, since the denominator of a row stands there and is often 1.
    """
    divisor = 0
    for number in reversed(values):
        divisor = common_divisor(divisor, number)
        if divisor == 1:
            return list(values)
    if divisor == 0:
        return list(values)
    return [number // divisor for number in values]


def common_divisor(m, n):
    """The greatest common divisor, not below 0; that of 0 and n is the size of n."""
    left = abs(m)
    right = abs(n)
    while right != 0:
        rest = left % right
        left = right
        right = rest
    return left
