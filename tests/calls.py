"""Calls as they stand in a line, a line's answers call by call, and some known graphs as lists of rows."""

from friendgraph.desk import answers

LOWEST = -2147483648
HIGHEST = 2147483647

BEGIN = [0]
STRONG = [6]
WIDE = [9]
GIRTH = [10]
TURN = [12]
ODDS = [13]

ALL_BITS = 2 ** 64 - 1


def size(n):
    return [1, n]


def edge(u, v, on):
    return [2, u, v, on]


def rows(numbers):
    return [3, len(numbers)] + list(numbers)


def row(u):
    return [4, u]


def common(u, v):
    return [5, u, v]


def pass_of(n, k, l, m):
    return [7, n, k, l, m]


def far(u, v):
    return [8, u, v]


def switch(s):
    return [11, s]


def every_row(n):
    return [row(u) for u in range(n)]


def split(told):
    """The answers of a line as one list for each call; fails if the counts do not come out."""
    parts = []
    at = 0
    while at < len(told):
        count = told[at]
        part = told[at + 1:at + 1 + count]
        if count < 1 or len(part) != count:
            raise AssertionError(f"the counts do not come out: {told}")
        parts.append(part)
        at += 1 + count
    return parts


def ask(*calls):
    """The answers to these calls behind a begin, one list for each call (begin's is left out)."""
    line = list(BEGIN)
    for call in calls:
        line += call
    parts = split(answers(line))
    if len(parts) != len(calls) + 1 or parts[0] != [0]:
        raise AssertionError(f"{len(calls)} calls behind begin were answered by {parts}")
    return parts[1:]


def ask_of_each(graphs, *calls):
    """For each graph of a list: the answers to these calls on it, one list for each call."""
    told = []
    for numbers in graphs:
        parts = ask(rows(numbers), *calls)
        if parts[0] != [0]:
            raise AssertionError(f"rows of a graph were refused: {numbers}")
        told.append(parts[1:])
    return told


def rows_where(n, joined):
    """The rows of the graph of n points in which u and v are neighbours if joined(u, v)."""
    return [sum(1 << v for v in range(n) if v != u and joined(u, v)) for u in range(n)]


def matching(n):
    return rows_where(n, lambda u, v: u ^ 1 == v)


def all_but_matching(n):
    return rows_where(n, lambda u, v: u ^ 1 != v)


def cycle(n):
    return rows_where(n, lambda u, v: (u - v) % n in (1, n - 1))


def path(n):
    return rows_where(n, lambda u, v: abs(u - v) == 1)


def two_sides(n):
    """Every even point is joined to every odd one."""
    return rows_where(n, lambda u, v: u % 2 != v % 2)


def complete(n):
    return rows_where(n, lambda u, v: True)


def from_edges(n, edges):
    """The rows of the graph of n points with these edges, each of them two points."""
    return rows_where(n, lambda u, v: (u, v) in edges or (v, u) in edges)


def graphs_of(n):
    """Every graph of n points, as rows."""
    pairs = [(u, v) for u in range(n) for v in range(u)]
    for chosen in range(1 << len(pairs)):
        yield from_edges(n, {pair for k, pair in enumerate(pairs) if chosen >> k & 1})


def scattered(n, seed, share):
    """A graph of n points in which about share of 64 pairs are neighbours, the same one whenever it is asked for."""
    state = seed
    edges = set()
    for u in range(n):
        for v in range(u):
            state = (state * 6364136223846793005 + 1442695040888963407) % 2 ** 64
            if state >> 58 < share:
                edges.add((u, v))
    return from_edges(n, edges)


def neighbours_of(numbers):
    return [{v for v in range(len(numbers)) if number >> v & 1} for number in numbers]


def rook(side):
    return rows_where(side * side, lambda u, v: u // side == v // side or u % side == v % side)


def paley(p):
    squares = {k * k % p for k in range(1, p)}
    return rows_where(p, lambda u, v: (u - v) % p in squares)


def petersen():
    pairs = [(a, b) for a in range(5) for b in range(a)]
    return rows_where(10, lambda u, v: not set(pairs[u]) & set(pairs[v]))
