"""Fractions, and the shares that owners have.

A fraction is a tuple of two numbers in lowest terms, the lower above 0.
Shares are a dict from owner to a fraction above 0, 1 together; a dict of shares is never changed.
"""


def greatest_common_part(n, d):
    """The greatest number that goes into both."""
    while d != 0:
        rest = n % d
        n = d
        d = rest
    return n


def fraction(n, d):
    """n / d in lowest terms."""
    part = greatest_common_part(n, d)
    return (n // part, d // part)


def plus(f, g):
    """Two fractions together."""
    return fraction(f[0] * g[1] + g[0] * f[1], f[1] * g[1])


def minus(f, g):
    """A fraction less another one that isn't greater."""
    return fraction(f[0] * g[1] - g[0] * f[1], f[1] * g[1])


def is_less(f, g):
    """Whether a fraction is less than another one."""
    return f[0] * g[1] < g[0] * f[1]


def area_of(share, twice):
    """The area that a share of some land comes to, whose whole area twice is told."""
    return fraction(share[0] * twice, share[1] * 2)


def share_of(shares, owner):
    """What an owner has, 0 if that's nothing."""
    return shares.get(owner, (0, 1))


def shares_given(shares, a, b, part):
    """The shares once a, who has that much, has given this part of the whole to b."""
    after = dict(shares)
    left = minus(share_of(shares, a), part)
    after[b] = plus(share_of(shares, b), part)
    if left[0] == 0:
        after.pop(a)
    else:
        after[a] = left
    return after
