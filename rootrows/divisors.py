"""Common divisors of whole numbers, great ones too.

The division steps of Euclid alone would take minutes for the numbers that powers of powers come to. So long numbers
are shortened by many steps at once: their highest binary digits tell nearly the same steps as the whole numbers.

A line of two numbers a and b is a list [u a + v b, u, v]. Two lines are kept that come from [a, 1, 0] and [b, 0, 1] by
steps that can be undone, so their first numbers have the common divisors of a and b, whatever steps were taken.
"""

# Numbers up to these many binary digits are divided step by step: in shortening, and at the end.
SHORT_TO_HALVE = 200
SHORT_TO_DIVIDE = 2000


def without_divisor(values):
    """The values divided by their greatest common divisor, as a list of its own.

    The last value comes first, since the denominator of a row stands there and is often 1.
    """
    divisor = 0
    for number in reversed(values):
        divisor = common_divisor(divisor, number)
        if divisor == 1:
            return list(values)
    if divisor == 0:
        return list(values)
    return [number // divisor for number in values]


def common_divisor(m, n):
    """The greatest common divisor, not below 0; that of 0 and n is the size of n."""
    left = max(abs(m), abs(n))
    right = min(abs(m), abs(n))
    while right.bit_length() > SHORT_TO_DIVIDE:
        lines = halved(right, left % right)
        left = lines[0][0]
        right = lines[1][0]
    while right != 0:
        rest = left % right
        left = right
        right = rest
    return left


def halved(a, b):
    """Two lines of a and b, the greater first, the second with about half as many binary digits as a at most.

    a is not below b, and b not below 0.
    """
    half = a.bit_length() // 2
    lines = [[a, 1, 0], [b, 0, 1]]
    if a.bit_length() <= SHORT_TO_HALVE:
        while lines[1][0] >> half != 0:
            lines = divided(lines)
        return lines
    lines = shortened(lines, half)
    if lines[1][0] >> half != 0:
        # The highest digits can't tell a quotient that is great; one step of its own takes it away.
        lines = divided(lines)
    if lines[1][0] >> half != 0:
        lines = shortened(lines, max(2 * half - lines[0][0].bit_length(), 0))
    return lines


def divided(lines):
    """The lines after one division step."""
    quotient = lines[0][0] // lines[1][0]
    return [lines[1], [m - quotient * n for m, n in zip(lines[0], lines[1])]]


def shortened(lines, shift):
    """The lines after the steps that halve their numbers without the last binary digits, shift many."""
    steps = halved(lines[0][0] >> shift, lines[1][0] >> shift)
    first = carried_over(lines, shift, steps[0])
    second = carried_over(lines, shift, steps[1])
    if first[0] < second[0]:
        return [second, first]
    return [first, second]


def carried_over(lines, shift, step):
    """u times the first line and v times the second, for a line [.., u, v] of their numbers without the last digits.

    The last digits may bring it slightly below 0; then its sign is changed.
    """
    u = step[1]
    v = step[2]
    last_digits = (1 << shift) - 1
    number = (step[0] << shift) + u * (lines[0][0] & last_digits) + v * (lines[1][0] & last_digits)
    line = [number, u * lines[0][1] + v * lines[1][1], u * lines[0][2] + v * lines[1][2]]
    if number < 0:
        return [-part for part in line]
    return line
