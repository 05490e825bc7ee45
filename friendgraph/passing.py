"""The arithmetic that the numbers n, k, l, m of a strong graph have to pass."""

from friendgraph.refusals import REFUSED

MOST_PASSED = 10000


def are_in_range(n, k, l, m):
    """Whether the numbers are none that pass refuses."""
    return 1 <= n and n <= MOST_PASSED and min(k, l, m) >= 0 and max(k, l, m) <= MOST_PASSED


def whole_root(number):
    """The largest whole number from 0 on whose square is at most number (0 if number is below 0)."""
    low = 0
    high = 1
    while high * high <= number:
        high = 2 * high
    while high - low > 1:
        middle = (low + high) // 2
        if middle * middle <= number:
            low = middle
        else:
            high = middle
    return low


def comes_out_even(n, k, l, m):
    """Whether e is 0, or the whole root d above 0 of (l - m)^2 + 4 (k - m) divides e, and n - 1 - e / d is even."""
    e = 2 * k + (n - 1) * (l - m)
    if e == 0:
        return True
    square = (l - m) * (l - m) + 4 * (k - m)
    d = whole_root(square)
    if d == 0 or d * d != square or e % d != 0:
        return False
    return (n - 1 - e // d) % 2 == 0


def passes(n, k, l, m):
    """What pass answers."""
    if not are_in_range(n, k, l, m):
        return [REFUSED]
    if k < 1 or k > n - 2:
        return [0]
    if k * (k - l - 1) != (n - k - 1) * m or not comes_out_even(n, k, l, m):
        return [0]
    return [1]
