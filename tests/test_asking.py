"""Points 5 to 7: row, common, strong."""

import unittest

from tests.calls import BEGIN, HIGHEST, LOWEST, STRONG
from tests.calls import all_but_matching, ask, common, complete, cycle, edge, every_row, graphs_of, matching
from tests.calls import neighbours_of, paley, petersen, rook, row, rows, rows_where, size


def strong_by_words(numbers):
    """What strong answers, told by the document's words over sets of neighbours."""
    near = neighbours_of(numbers)
    n = len(numbers)
    degrees = {len(points) for points in near}
    of_neighbours = {len(near[u] & near[v]) for u in range(n) for v in near[u]}
    of_others = {len(near[u] & near[v]) for u in range(n) for v in range(n) if v != u and v not in near[u]}
    if len(degrees) != 1 or not 1 <= min(degrees) <= n - 2 or len(of_neighbours) != 1 or len(of_others) != 1:
        return [-2]
    return [1, n, min(degrees), min(of_neighbours), min(of_others)]


class Row(unittest.TestCase):
    def test_tells_how_many_and_the_row(self):
        told = ask(size(5), edge(0, 1, 1), edge(0, 3, 1), edge(4, 0, 1), *every_row(5))
        self.assertEqual(told[4:], [[3, 26], [1, 1], [0, 0], [1, 1], [1, 1]])

    def test_every_count_up_to_63(self):
        joins = [edge(0, v, 1) for v in range(1, 64)]
        calls = [call for join in joins for call in (join, row(0))]
        told = ask(size(64), *calls)
        self.assertEqual(told[2::2], [[v, (1 << (v + 1)) - 2] for v in range(1, 64)])

    def test_single_bits(self):
        for v in range(1, 64):
            self.assertEqual(ask(size(64), edge(0, v, 1), row(0))[2], [1, 1 << v])

    def test_full_rows(self):
        told = ask(rows(complete(64)), row(0), row(63))
        self.assertEqual(told[1:], [[63, 2 ** 64 - 2], [63, 2 ** 63 - 1]])

    def test_not_a_point(self):
        for n in (1, 2, 40, 64):
            told = ask(size(n), row(n - 1), row(n), row(-1), row(LOWEST), row(HIGHEST), row(-n))
            self.assertEqual(told[1:], [[0, 0]] + [[-1]] * 5)

    def test_changes_nothing(self):
        told = ask(rows(cycle(5)), *every_row(5), row(5), *every_row(5))
        self.assertEqual(told[1:6], told[7:])


class Common(unittest.TestCase):
    def test_two_points(self):
        told = ask(size(6), edge(0, 2, 1), edge(1, 2, 1), edge(0, 3, 1), edge(1, 3, 1), edge(0, 4, 1), edge(1, 5, 1),
                   common(0, 1), common(1, 0), common(2, 3), common(0, 2), common(4, 5), common(2, 4))
        self.assertEqual(told[7:], [[2], [2], [2], [0], [0], [1]])

    def test_neighbours_are_not_counted_themselves(self):
        told = ask(size(3), edge(0, 1, 1), common(0, 1), edge(0, 2, 1), edge(1, 2, 1), common(0, 1))
        self.assertEqual([told[2], told[5]], [[0], [1]])

    def test_a_point_and_itself(self):
        told = ask(rows(petersen()), size(4), edge(1, 0, 1), edge(1, 3, 1), *[common(u, u) for u in range(4)])
        self.assertEqual(told[4:], [[1], [2], [0], [1]])
        self.assertEqual(ask(common(0, 0)), [[0]])
        self.assertEqual(ask(rows(complete(64)), common(63, 63), common(0, 63))[1:], [[63], [62]])

    def test_point_63_in_common(self):
        told = ask(size(64), edge(0, 63, 1), edge(63, 1, 1), common(0, 1), common(0, 63))
        self.assertEqual(told[3:], [[1], [0]])

    def test_any_two_points_of_some_graphs(self):
        for numbers in (petersen(), paley(13), cycle(9), rows_where(12, lambda u, v: (u + v) % 3 == 0)):
            near = neighbours_of(numbers)
            pairs = [(u, v) for u in range(len(numbers)) for v in range(len(numbers))]
            told = ask(rows(numbers), *[common(u, v) for u, v in pairs])
            self.assertEqual(told[1:], [[len(near[u] & near[v])] for u, v in pairs])

    def test_not_a_point(self):
        for n in (1, 3, 64):
            wrong = [(0, n), (n, 0), (-1, 0), (0, -1), (n, n), (-1, -1), (LOWEST, HIGHEST), (0, HIGHEST), (LOWEST, 0)]
            told = ask(rows(complete(n)), common(n - 1, n - 1), *[common(u, v) for u, v in wrong])
            self.assertEqual(told[1:], [[n - 1]] + [[-1]] * len(wrong))

    def test_changes_nothing(self):
        told = ask(rows(cycle(5)), common(0, 2), common(0, 5), common(1, 1), *every_row(5))
        self.assertEqual([part[1] for part in told[4:]], cycle(5))


class Strong(unittest.TestCase):
    def test_known_strong_graphs(self):
        known = [
            (cycle(4), [4, 2, 0, 2]), (cycle(5), [5, 2, 0, 1]), (petersen(), [10, 3, 0, 1]),
            (paley(13), [13, 6, 2, 3]), (paley(61), [61, 30, 14, 15]),
            (rook(3), [9, 4, 1, 2]), (rook(4), [16, 6, 2, 2]), (rook(8), [64, 14, 6, 2]),
            (rows_where(12, lambda u, v: u // 4 == v // 4), [12, 3, 2, 0]),
            (rows_where(12, lambda u, v: u // 4 != v // 4), [12, 8, 4, 8]),
        ]
        for numbers, told in known:
            self.assertEqual(ask(rows(numbers), STRONG), [[0], [1] + told])

    def test_k_of_1_and_beside_it(self):
        for n in (4, 6, 64):
            self.assertEqual(ask(rows(matching(n)), STRONG)[1], [1, n, 1, 0, 0])
            self.assertEqual(ask(size(n), STRONG)[1], [-2])

    def test_k_of_n_minus_2_and_beside_it(self):
        for n in (4, 6, 64):
            self.assertEqual(ask(rows(all_but_matching(n)), STRONG)[1], [1, n, n - 2, n - 4, n - 2])
            self.assertEqual(ask(rows(complete(n)), STRONG)[1], [-2])

    def test_few_points(self):
        self.assertEqual(ask(STRONG), [[-2]])
        self.assertEqual(ask(size(1), STRONG, size(2), STRONG, edge(0, 1, 1), STRONG)[1::2], [[-2], [-2], [-2]])
        self.assertEqual(ask(rows([6, 5, 3]), STRONG, edge(0, 1, 0), STRONG)[1::2], [[-2], [-2]])

    def test_not_as_many_neighbours_each(self):
        # a star: any two neighbours have none in common and any two others one, whichever point comes first
        self.assertEqual(ask(rows([14, 1, 1, 1]), STRONG)[1], [-2])
        self.assertEqual(ask(rows([8, 8, 8, 7]), STRONG)[1], [-2])

    def test_neighbours_alone_differ(self):
        # a prism: any two others have two in common, two neighbours one or none
        prism = rows_where(6, lambda u, v: u // 3 == v // 3 or u % 3 == v % 3)
        self.assertEqual(ask(rows(prism), STRONG)[1], [-2])

    def test_others_alone_differ(self):
        self.assertEqual(ask(rows(cycle(6)), STRONG)[1], [-2])
        self.assertEqual(ask(rows(cycle(64)), STRONG)[1], [-2])

    def test_one_pair_at_the_end_is_seen(self):
        # four points trade partners: every point still has as many neighbours
        told = ask(rows(rook(8)), edge(63, 62, 0), edge(0, 1, 0), edge(63, 0, 1), edge(62, 1, 1), STRONG)
        self.assertEqual(told[-1], [-2])

    def test_every_graph_of_up_to_5_points(self):
        for n in range(1, 6):
            for numbers in graphs_of(n):
                self.assertEqual(ask(rows(numbers), STRONG)[1], strong_by_words(numbers), numbers)

    def test_graphs_that_look_alike_all_round(self):
        for n in (6, 7, 8, 9, 10):
            for steps in range(1 << (n // 2)):
                numbers = rows_where(n, lambda u, v: steps >> (min((u - v) % n, (v - u) % n) - 1) & 1 == 1)
                self.assertEqual(ask(rows(numbers), STRONG)[1], strong_by_words(numbers), numbers)

    def test_follows_the_graph_and_changes_nothing(self):
        told = ask(rows(cycle(4)), STRONG, edge(0, 1, 0), STRONG, edge(2, 3, 0), STRONG, *every_row(4), BEGIN, STRONG)
        self.assertEqual(told, [[0], [1, 4, 2, 0, 2], [0], [-2], [0], [1, 4, 1, 0, 0],
                                [1, 8], [1, 4], [1, 2], [1, 1], [0], [-2]])


if __name__ == "__main__":
    unittest.main()
