"""Common divisors, and numbers turned over a base."""

from restrow.errors import NoTurn


def common(one, other):
    """Give the greatest number that divides both; 0 of two noughts."""
    while other != 0:
        one, other = other, one % other
    return one


def turned(number, base):
    """Give the number below the base that times this one leaves 1 over the base."""
    left = number % base
    if left == 0 or common(base, left) > 1:
        # The message names no numbers, since Python does not write out very long ones.
        raise NoTurn("the number has a common divisor with the base, or is a multiple of it")
    above, below = base, left
    high, low = 0, 1
    # Over the base, high times the number leaves above, and low times the number leaves below.
    # Nothing above 1 divides both, so below comes down to 1, never past it to 0.
    while below > 1:
        fits = above // below
        above, below = below, above - fits * below
        high, low = low, high - fits * low
    return low % base
