"""Calls as they stand in a line, a line's answers call by call, and some known graphs as lists of rows."""

from friendgraph.desk import answers

LOWEST = -2147483648
HIGHEST = 2147483647

BEGIN = [0]
STRONG = [6]


def size(n):
    return [1, n]


def edge(u, v, on):
    return [2, u, v, on]


def rows(numbers):
    return [3, len(numbers)] + list(numbers)


def row(u):
    return [4, u]


def common(u, v):
    return [5, u, v]


def every_row(n):
    return [row(u) for u in range(n)]


def split(told):
    """The answers of a line as one list for each call; fails if the counts do not come out."""
    parts = []
    at = 0
    while at < len(told):
        count = told[at]
        part = told[at + 1:at + 1 + count]
        if count < 1 or len(part) != count:
            raise AssertionError(f"the counts do not come out: {told}")
        parts.append(part)
        at += 1 + count
    return parts


def ask(*calls):
    """The answers to these calls behind a begin, one list for each call (begin's is left out)."""
    line = list(BEGIN)
    for call in calls:
        line += call
    parts = split(answers(line))
    if len(parts) != len(calls) + 1 or parts[0] != [0]:
        raise AssertionError(f"{len(calls)} calls behind begin were answered by {parts}")
    return parts[1:]


def rows_where(n, joined):
    """The rows of the graph of n points in which u and v are neighbours if joined(u, v)."""
    return [sum(1 << v for v in range(n) if v != u and joined(u, v)) for u in range(n)]


def matching(n):
    return rows_where(n, lambda u, v: u ^ 1 == v)


def all_but_matching(n):
    return rows_where(n, lambda u, v: u ^ 1 != v)


def cycle(n):
    return rows_where(n, lambda u, v: (u - v) % n in (1, n - 1))


def complete(n):
    return rows_where(n, lambda u, v: True)


def rook(side):
    return rows_where(side * side, lambda u, v: u // side == v // side or u % side == v % side)


def paley(p):
    squares = {k * k % p for k in range(1, p)}
    return rows_where(p, lambda u, v: (u - v) % p in squares)


def petersen():
    pairs = [(a, b) for a in range(5) for b in range(a)]
    return rows_where(10, lambda u, v: not set(pairs[u]) & set(pairs[v]))
