"""A graph of 1 to 64 points, kept as one row of bits for each point."""

from friendgraph.bits import bit_of, bits_set, first_bits, with_bit
from friendgraph.refusals import NOT_SO, REFUSED
from friendgraph.steps import most_steps, shortest_ring, steps_between

MOST_POINTS = 64


def is_size(n):
    """Whether a graph may have n points."""
    return 1 <= n and n <= MOST_POINTS


def rows_agree(rows):
    """Whether each two rows tell the same of their two points, and no point is its own neighbour."""
    for u in range(len(rows)):
        if bit_of(rows[u], u) == 1:
            return False
        for v in range(u):
            if bit_of(rows[u], v) != bit_of(rows[v], u):
                return False
    return True


def are_rows(rows):
    """Whether rows are the rows of a graph with as many points."""
    n = len(rows)
    if not is_size(n):
        return False
    for row in rows:
        if row >> n != 0:
            return False
    return rows_agree(rows)


class Graph:
    """The graph that calls are made on; each method of a call gives back the list of what is answered."""

    def __init__(self):
        self.neighbours = [0]

    def begin(self):
        self.neighbours = [0]
        return [0]

    def size(self, n):
        if not is_size(n):
            return [REFUSED]
        self.neighbours = [0 for point in range(n)]
        return [0]

    def edge(self, u, v, on):
        if not self.has_points(u, v) or u == v or on < 0 or on > 1:
            return [REFUSED]
        self.neighbours[u] = with_bit(self.neighbours[u], v, on)
        self.neighbours[v] = with_bit(self.neighbours[v], u, on)
        return [0]

    def rows(self, rows):
        if not are_rows(rows):
            return [REFUSED]
        # edges are changed in place later on, and the list that was handed over is not to change with them
        self.neighbours = list(rows)
        return [0]

    def row(self, u):
        if not self.has_points(u, u):
            return [REFUSED]
        return [bits_set(self.neighbours[u]), self.neighbours[u]]

    def common(self, u, v):
        if not self.has_points(u, v):
            return [REFUSED]
        return [self.in_common(u, v)]

    def strong(self):
        n = len(self.neighbours)
        k = bits_set(self.neighbours[0])
        if k < 1 or k > n - 2 or not self.all_have(k):
            return [NOT_SO]
        # with such a k there are two neighbours and two others, so None means different numbers here
        of_neighbours = self.always_common(1)
        of_others = self.always_common(0)
        if of_neighbours is None or of_others is None:
            return [NOT_SO]
        return [1, n, k, of_neighbours, of_others]

    def far(self, u, v):
        if not self.has_points(u, v):
            return [REFUSED]
        steps = steps_between(self.neighbours, u, v)
        if steps is None:
            return [NOT_SO]
        return [steps]

    def wide(self):
        steps = most_steps(self.neighbours)
        if steps is None:
            return [NOT_SO]
        return [steps]

    def girth(self):
        return [shortest_ring(self.neighbours)]

    def switch(self, s):
        chosen = s & self.all_points()
        self.neighbours = [self.switched_row(u, chosen) for u in range(len(self.neighbours))]
        return [0]

    def turn(self):
        everyone = self.all_points()
        self.neighbours = [self.neighbours[u] ^ with_bit(everyone, u, 0) for u in range(len(self.neighbours))]
        return [0]

    def odds(self):
        total = 0
        for u in range(len(self.neighbours)):
            for v in range(u):
                # only third points below v, so that each three is counted once
                total = total + bits_set(self.odd_with(u, v) & first_bits(v))
        return [total]

    def has_points(self, u, v):
        """Whether u and v are both points."""
        n = len(self.neighbours)
        return 0 <= u and u < n and 0 <= v and v < n

    def all_points(self):
        """The row in which every point's bit is set."""
        return first_bits(len(self.neighbours))

    def in_common(self, u, v):
        """How many neighbours the points u and v have in common."""
        return bits_set(self.neighbours[u] & self.neighbours[v])

    def all_have(self, k):
        """Whether each point has k neighbours."""
        for row in self.neighbours:
            if bits_set(row) != k:
                return False
        return True

    def always_common(self, on):
        """How many any two neighbours (on 1) or any two others (on 0) have in common.

        None if that differs, or if there are no such two.
        """
        found = None
        for u in range(len(self.neighbours)):
            for v in range(u):
                if bit_of(self.neighbours[u], v) == on:
                    shared = self.in_common(u, v)
                    if found is None:
                        found = shared
                    if found != shared:
                        return None
        return found

    def switched_row(self, u, chosen):
        """The row of u once the graph is switched about the chosen points, which are told by bits."""
        if bit_of(chosen, u) == 1:
            return self.neighbours[u] ^ (self.all_points() & ~chosen)
        return self.neighbours[u] ^ chosen

    def odd_with(self, u, v):
        """The row of the points that have, with u and v, one or three edges among them (bits u and v say nothing)."""
        one_of_both = self.neighbours[u] ^ self.neighbours[v]
        if bit_of(self.neighbours[u], v) == 1:
            return self.all_points() & ~one_of_both
        return one_of_both
