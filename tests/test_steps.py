"""Points 9 to 11: far, wide, girth."""

import unittest
from itertools import combinations, permutations

from tests.calls import BEGIN, GIRTH, HIGHEST, LOWEST, TURN, WIDE
from tests.calls import ask, ask_of_each, complete, cycle, edge, every_row, far, from_edges, graphs_of, matching
from tests.calls import neighbours_of, path, petersen, rook, rows, rows_where, scattered, size, switch, two_sides


def far_by_words(numbers):
    """For each two points how far they are, None where no steps lead: ways are lengthened by a point between."""
    n = len(numbers)
    apart = [[0 if u == v else 1 if numbers[u] >> v & 1 else None for v in range(n)] for u in range(n)]
    for between in range(n):
        for u in range(n):
            for v in range(n):
                first, second = apart[u][between], apart[between][v]
                if first is not None and second is not None and (apart[u][v] is None or first + second < apart[u][v]):
                    apart[u][v] = first + second
    return apart


def wide_by_words(numbers):
    steps = [one for row in far_by_words(numbers) for one in row]
    return [-2] if None in steps else [max(steps)]


def is_ring(near, points):
    return all(points[k] in near[points[k - 1]] for k in range(len(points)))


def girth_by_words(numbers):
    """How many points the shortest ring has, by trying every row of different points."""
    near = neighbours_of(numbers)
    for many in range(3, len(numbers) + 1):
        for chosen in combinations(range(len(numbers)), many):
            if any(is_ring(near, chosen[:1] + others) for others in permutations(chosen[1:])):
                return [many]
    return [0]


def steps_round(near, u, v):
    """The fewest steps from u to its neighbour v without the edge between them; None if none lead there."""
    reached = {u}
    steps = 0
    while v not in reached:
        more = reached | {there for here in reached for there in near[here] if {here, there} != {u, v}}
        if more == reached:
            return None
        reached = more
        steps += 1
    return steps


def girth_by_edges(numbers):
    """How many points the shortest ring has: it is an edge, and the fewest steps between its ends without it."""
    near = neighbours_of(numbers)
    found = [steps_round(near, u, v) for u in range(len(numbers)) for v in near[u] if v < u]
    return [min([steps + 1 for steps in found if steps is not None], default=0)]


def rings(*lengths):
    """Rings of these lengths, one behind another, apart."""
    edges = set()
    first = 0
    for length in lengths:
        edges |= {(first + k, first + (k + 1) % length) for k in range(length)}
        first += length
    return from_edges(first, edges)


def three_ways(first, second, third):
    """Points 0 and 1, and three ways of so many steps between them (each of two steps or more)."""
    edges = set()
    free = 2
    for length in (first, second, third):
        way = [0] + list(range(free, free + length - 1)) + [1]
        edges |= set(zip(way, way[1:]))
        free += length - 1
    return from_edges(free, edges)


def heawood():
    return from_edges(14, {(k, (k + 1) % 14) for k in range(14)} | {(k, (k + 5) % 14) for k in range(0, 14, 2)})


def mcgee():
    turns = (12, 7, -7)
    return from_edges(24, {(k, (k + 1) % 24) for k in range(24)} | {(k, (k + turns[k % 3]) % 24) for k in range(24)})


def tutte_coxeter():
    turns = (-13, -9, 7, -7, 9, 13)
    return from_edges(30, {(k, (k + 1) % 30) for k in range(30)} | {(k, (k + turns[k % 6]) % 30) for k in range(30)})


def hypercube():
    return rows_where(64, lambda u, v: bin(u ^ v).count("1") == 1)


def tree(n):
    """Point u's neighbours below it: the half of u - 1."""
    return from_edges(n, {(u, (u - 1) // 2) for u in range(1, n)})


class Far(unittest.TestCase):
    def every_far(self, numbers):
        pairs = [(u, v) for u in range(len(numbers)) for v in range(len(numbers))]
        apart = far_by_words(numbers)
        told = []
        for start in range(0, len(pairs), 298):
            told += ask(rows(numbers), *[far(u, v) for u, v in pairs[start:start + 298]])[1:]
        self.assertEqual(told, [[-2] if apart[u][v] is None else [apart[u][v]] for u, v in pairs], numbers)

    def test_a_point_and_itself(self):
        self.assertEqual(ask(far(0, 0)), [[0]])
        for numbers in ([0, 0], complete(64), cycle(5), [0] * 64):
            n = len(numbers)
            self.assertEqual(ask(rows(numbers), far(0, 0), far(n - 1, n - 1), far(1, 1))[1:], [[0], [0], [0]])

    def test_neighbours_and_those_of_neighbours(self):
        told = ask(size(4), edge(0, 1, 1), edge(1, 2, 1), far(0, 1), far(1, 0), far(0, 2), far(2, 0), far(0, 3))
        self.assertEqual(told[3:], [[1], [1], [2], [2], [-2]])

    def test_no_steps(self):
        self.assertEqual(ask(size(2), far(0, 1), far(1, 0), edge(0, 1, 1), far(0, 1), edge(0, 1, 0), far(1, 0))[1:],
                         [[-2], [-2], [0], [1], [0], [-2]])
        self.assertEqual(ask(rows(matching(64)), far(0, 1), far(63, 62), far(0, 2), far(1, 63))[1:],
                         [[1], [1], [-2], [-2]])
        self.assertEqual(ask(size(64), far(0, 63), far(63, 0))[1:], [[-2], [-2]])

    def test_the_longest_way(self):
        told = ask(rows(path(64)), far(0, 63), far(63, 0), far(1, 63), far(62, 0), far(20, 41))
        self.assertEqual(told[1:], [[63], [63], [62], [62], [21]])
        told = ask(rows(path(64)), edge(0, 63, 1), far(0, 63), far(0, 32), far(0, 33), far(16, 48))
        self.assertEqual(told[2:], [[1], [32], [31], [32]])

    def test_the_shorter_of_several_ways(self):
        numbers = three_ways(5, 3, 4)
        self.assertEqual(ask(rows(numbers), far(0, 1), far(1, 0), edge(0, 1, 1), far(0, 1))[1:], [[3], [3], [0], [1]])

    def test_any_two_points(self):
        for numbers in (petersen(), cycle(9), cycle(10), heawood(), rings(3, 5, 4), tree(20), three_ways(2, 4, 7),
                        hypercube(), rook(5), two_sides(11), three_ways(9, 20, 33)):
            self.every_far(numbers)

    def test_any_two_points_of_every_graph_of_up_to_4_points(self):
        for n in range(1, 5):
            for numbers in graphs_of(n):
                self.every_far(numbers)

    def test_any_two_points_of_scattered_graphs(self):
        for seed in range(12):
            self.every_far(scattered(17, seed, 3 + seed))

    def test_not_a_point(self):
        for n in (1, 3, 64):
            wrong = [(0, n), (n, 0), (-1, 0), (0, -1), (n, n), (-1, -1), (LOWEST, HIGHEST), (0, HIGHEST), (LOWEST, 0),
                     (-n, 0), (HIGHEST, HIGHEST)]
            for numbers in ([0] * n, complete(n)):
                told = ask(rows(numbers), far(n - 1, n - 1), *[far(u, v) for u, v in wrong])
                self.assertEqual(told[1:], [[0]] + [[-1]] * len(wrong))

    def test_changes_nothing(self):
        told = ask(rows(cycle(5)), far(0, 2), far(0, 5), far(3, 3), *every_row(5), edge(0, 1, 0), far(0, 1))
        self.assertEqual([part[1] for part in told[4:9]], cycle(5))
        self.assertEqual(told[-1], [4])


class Wide(unittest.TestCase):
    def test_one_point(self):
        self.assertEqual(ask(WIDE, size(1), WIDE, rows([0]), WIDE), [[0]] * 5)
        self.assertEqual(ask(size(5), WIDE, BEGIN, WIDE), [[0], [-2], [0], [0]])

    def test_two_points(self):
        self.assertEqual(ask(size(2), WIDE, edge(0, 1, 1), WIDE, edge(0, 1, 0), WIDE)[1::2], [[-2], [1], [-2]])

    def test_known_graphs(self):
        known = [(path(64), 63), (cycle(64), 32), (cycle(63), 31), (complete(64), 1), (petersen(), 2), (heawood(), 3),
                 (mcgee(), 4), (tutte_coxeter(), 4), (hypercube(), 6), (rook(8), 2), (two_sides(64), 2), (tree(63), 10)]
        for numbers, steps in known:
            self.assertEqual(ask(rows(numbers), WIDE), [[0], [steps]])

    def test_two_pieces(self):
        for numbers in (rings(3, 3), rings(5, 4, 3), matching(64), [0] * 64, [0, 4, 2], [2, 1, 0], [0, 0],
                        path(63) + [0], [0] + [number << 1 for number in path(63)]):
            self.assertEqual(ask(rows(numbers), WIDE), [[0], [-2]])

    def test_the_farthest_two_need_not_hold_point_0(self):
        star = from_edges(5, {(0, k) for k in range(1, 5)})
        self.assertEqual(ask(rows(star), WIDE)[1], [2])
        middle = from_edges(7, {(0, 1), (1, 2), (2, 3), (0, 4), (4, 5), (5, 6)})
        self.assertEqual(ask(rows(middle), WIDE)[1], [6])

    def test_every_graph_of_up_to_5_points(self):
        for n in range(1, 6):
            graphs = list(graphs_of(n))
            self.assertEqual(ask_of_each(graphs, WIDE), [[wide_by_words(numbers)] for numbers in graphs])

    def test_scattered_graphs(self):
        graphs = [scattered(20, seed, 5 + seed % 20) for seed in range(60)]
        self.assertEqual(ask_of_each(graphs, WIDE), [[wide_by_words(numbers)] for numbers in graphs])

    def test_follows_the_graph_and_changes_nothing(self):
        told = ask(rows(path(4)), WIDE, edge(0, 3, 1), WIDE, edge(1, 2, 0), edge(0, 1, 0), WIDE, *every_row(4),
                   TURN, WIDE, switch(1), WIDE)
        self.assertEqual(told, [[0], [3], [0], [2], [0], [0], [-2], [1, 8], [0, 0], [1, 8], [2, 5],
                                [0], [2], [0], [3]])


class Girth(unittest.TestCase):
    def test_no_ring(self):
        for numbers in ([0], [0, 0], [2, 1], [2, 5, 2], [0] * 64, matching(64), path(64), tree(64), [0, 0, 8, 4]):
            self.assertEqual(ask(rows(numbers), GIRTH), [[0], [0]])

    def test_one_point_at_the_beginning(self):
        self.assertEqual(ask(GIRTH, size(3), GIRTH, BEGIN, GIRTH), [[0], [0], [0], [0], [0]])

    def test_each_ring_alone(self):
        for n in range(3, 65):
            self.assertEqual(ask(rows(cycle(n)), GIRTH, edge(0, n - 1, 0), GIRTH), [[0], [n], [0], [0]])

    def test_known_graphs(self):
        known = [(complete(3), 3), (complete(64), 3), (petersen(), 5), (heawood(), 6), (mcgee(), 7),
                 (tutte_coxeter(), 8), (hypercube(), 4), (rook(8), 3), (two_sides(64), 4), (two_sides(4), 4),
                 (two_sides(3), 0)]
        for numbers, points in known:
            self.assertEqual(ask(rows(numbers), GIRTH), [[0], [points]])

    def test_the_shortest_is_not_the_first(self):
        for lengths in ((7, 5), (5, 7), (8, 6, 10), (9, 4, 3), (20, 21, 19), (6, 5), (5, 6), (3, 60), (60, 4)):
            self.assertEqual(ask(rows(rings(*lengths)), GIRTH), [[0], [min(lengths)]])

    def test_a_ring_at_the_end_of_a_way(self):
        # a way of some steps from point 0 to a ring: from point 0 two ways round it have their first steps in common
        for steps in (1, 2, 5, 10):
            for length in (3, 4, 5, 6, 20):
                edges = {(k, k + 1) for k in range(steps)}
                edges |= {(steps + k, steps + (k + 1) % length) for k in range(length)}
                self.assertEqual(ask(rows(from_edges(steps + length, edges)), GIRTH)[1], [length])

    def test_rings_with_edges_in_common(self):
        for first, second, third in ((2, 2, 2), (2, 3, 4), (3, 3, 4), (5, 6, 7), (9, 20, 33), (4, 10, 3), (21, 21, 22)):
            shortest = first + second + third - max(first, second, third)
            self.assertEqual(ask(rows(three_ways(first, second, third)), GIRTH)[1], [shortest])

    def test_one_edge_makes_it_shorter(self):
        told = ask(rows(cycle(64)), GIRTH, edge(0, 32, 1), GIRTH, edge(0, 31, 1), GIRTH, edge(10, 15, 1), GIRTH,
                   edge(63, 60, 1), GIRTH, edge(40, 42, 1), GIRTH, edge(41, 40, 0), GIRTH)
        self.assertEqual(told[1::2], [[64], [33], [3], [3], [3], [3], [3]])
        told = ask(rows(cycle(64)), edge(0, 32, 1), GIRTH, edge(10, 20, 1), GIRTH, edge(63, 58, 1), GIRTH,
                   edge(40, 43, 1), GIRTH, edge(42, 43, 0), GIRTH)
        self.assertEqual(told[2::2], [[33], [11], [6], [4], [6]])

    def test_every_graph_of_up_to_5_points(self):
        for n in range(1, 6):
            graphs = list(graphs_of(n))
            self.assertEqual(ask_of_each(graphs, GIRTH), [[girth_by_words(numbers)] for numbers in graphs])

    def test_scattered_graphs(self):
        # few edges each, so that some have no ring and others a long one
        graphs = [scattered(20, seed, share) for seed in range(80) for share in (4, 5, 7)]
        told = ask_of_each(graphs, GIRTH)
        self.assertEqual(told, [[girth_by_edges(numbers)] for numbers in graphs])
        self.assertEqual({parts[0][0] for parts in told}, {0, 3, 4, 5, 6, 7, 8, 9})

    def test_graphs_that_look_alike_all_round(self):
        graphs = [rows_where(n, lambda u, v: (u - v) % n in (1, n - 1, step, n - step))
                  for n in (11, 14, 17) for step in range(2, n // 2 + 1)]
        self.assertEqual(ask_of_each(graphs, GIRTH), [[girth_by_edges(numbers)] for numbers in graphs])

    def test_changes_nothing(self):
        told = ask(rows(petersen()), GIRTH, *every_row(10), GIRTH)
        self.assertEqual([part[1] for part in told[2:12]], petersen())
        self.assertEqual([told[1], told[12]], [[5], [5]])


if __name__ == "__main__":
    unittest.main()
