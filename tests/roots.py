"""Real roots and values there, with many decimal digits, by another way than the program's."""

from decimal import Context, Decimal, setcontext
from functools import lru_cache

# No value in the tests lies as near to a whole number, or to half of one, as this precision can't tell.
setcontext(Context(prec=180))


def at(f, x):
    total = Decimal(0)
    for n in reversed(f):
        total = total * x + n
    return total


def roots_of(f):
    """The roots where f changes its sign, from the least on: between those of its derivative there is one at most."""
    if len(f) == 2:
        return [Decimal(-f[0]) / f[1]]
    turns = roots_of([k * n for k, n in enumerate(f)][1:])
    ends = [Decimal(-3000)] + turns + [Decimal(3000)]
    return [root_between(f, low, high) for low, high in zip(ends, ends[1:]) if at(f, low) * at(f, high) < 0]


def root_between(f, low, high):
    rises = at(f, low) < 0
    for step in range(560):
        middle = (low + high) / 2
        if (at(f, middle) < 0) == rises:
            low = middle
        else:
            high = middle
    return low


@lru_cache(None)
def places_of(field):
    return roots_of(list(field) + [1])


def value_at(k, field, a):
    return at(a[:-1], places_of(tuple(field))[k]) / a[-1]
