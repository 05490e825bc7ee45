"""A graph of 1 to 64 points, kept as one row of bits for each point."""

MOST_POINTS = 64

REFUSED = -1
NOT_SO = -2

# How many bits are set in each number of four bits: strong counts some thousand rows, too many to go bit by bit.
BITS_OF_FOUR = (0, 1, 1, 2, 1, 2, 2, 3, 1, 2, 2, 3, 2, 3, 3, 4)


def bits_set(row):
    """How many bits of row are set."""
    total = 0
    while row > 0:
        total = total + BITS_OF_FOUR[row & 15]
        row = row >> 4
    return total


def bit_of(row, v):
    """Bit v of row: 0 or 1."""
    return (row >> v) & 1


def with_bit(row, v, on):
    """The row that is like row, but has bit v set (on 1) or not (on 0)."""
    if on == 1:
        return row | (1 << v)
    return row & ~(1 << v)


def is_size(n):
    """Whether a graph may have n points."""
    return 1 <= n and n <= MOST_POINTS


def rows_agree(rows):
    """Whether each two rows tell the same of their two points, and no point is its own neighbour."""
    for u in range(len(rows)):
        if bit_of(rows[u], u) == 1:
            return False
        for v in range(u):
            if bit_of(rows[u], v) != bit_of(rows[v], u):
                return False
    return True


def are_rows(rows):
    """Whether rows are the rows of a graph with as many points."""
    n = len(rows)
    if not is_size(n):
        return False
    for row in rows:
        if row >> n != 0:
            return False
    return rows_agree(rows)


class Graph:
    """The graph that calls are made on; each method of a call gives back the list of what is answered."""

    def __init__(self):
        self.neighbours = [0]

    def begin(self):
        self.neighbours = [0]
        return [0]

    def size(self, n):
        if not is_size(n):
            return [REFUSED]
        self.neighbours = [0 for point in range(n)]
        return [0]

    def edge(self, u, v, on):
        if not self.has_points(u, v) or u == v or on < 0 or on > 1:
            return [REFUSED]
        self.neighbours[u] = with_bit(self.neighbours[u], v, on)
        self.neighbours[v] = with_bit(self.neighbours[v], u, on)
        return [0]

    def rows(self, rows):
        if not are_rows(rows):
            return [REFUSED]
        # edges are changed in place later on, and the list that was handed over is not to change with them
        self.neighbours = list(rows)
        return [0]

    def row(self, u):
        if not self.has_points(u, u):
            return [REFUSED]
        return [bits_set(self.neighbours[u]), self.neighbours[u]]

    def common(self, u, v):
        if not self.has_points(u, v):
            return [REFUSED]
        return [self.in_common(u, v)]

    def strong(self):
        n = len(self.neighbours)
        k = bits_set(self.neighbours[0])
        if k < 1 or k > n - 2 or not self.all_have(k):
            return [NOT_SO]
        # with such a k there are two neighbours and two others, so None means different numbers here
        of_neighbours = self.always_common(1)
        of_others = self.always_common(0)
        if of_neighbours is None or of_others is None:
            return [NOT_SO]
        return [1, n, k, of_neighbours, of_others]

    def has_points(self, u, v):
        """Whether u and v are both points."""
        n = len(self.neighbours)
        return 0 <= u and u < n and 0 <= v and v < n

    def in_common(self, u, v):
        """How many neighbours the points u and v have in common."""
        return bits_set(self.neighbours[u] & self.neighbours[v])

    def all_have(self, k):
        """Whether each point has k neighbours."""
        for row in self.neighbours:
            if bits_set(row) != k:
                return False
        return True

    def always_common(self, on):
        """How many any two neighbours (on 1) or any two others (on 0) have in common.

        None if that differs, or if there are no such two.
        """
        found = None
        for u in range(len(self.neighbours)):
            for v in range(u):
                if bit_of(self.neighbours[u], v) == on:
                    shared = self.in_common(u, v)
                    if found is None:
                        found = shared
                    if found != shared:
                        return None
        return found
