"""Points 1 to 4: begin, size, edge, rows."""

import unittest

from friendgraph.desk import answers
from friendgraph.graph import Graph
from tests.calls import BEGIN, HIGHEST, LOWEST, STRONG
from tests.calls import ask, complete, cycle, edge, every_row, petersen, row, rows, rows_where, size, split


class Begin(unittest.TestCase):
    def test_answers_0(self):
        self.assertEqual(answers([0]), [1, 0])

    def test_makes_one_point_without_neighbours(self):
        self.assertEqual(ask(row(0), row(1)), [[0, 0], [-1]])

    def test_again_makes_one_point_anew(self):
        told = ask(size(3), edge(0, 2, 1), BEGIN, row(0), row(1), edge(0, 1, 1))
        self.assertEqual(told, [[0], [0], [0], [0, 0], [-1], [-1]])

    def test_again_and_again(self):
        self.assertEqual(answers([0, 0, 0]), [1, 0, 1, 0, 1, 0])

    def test_graphs_behind_a_second_begin_are_as_behind_the_first(self):
        part = [size(4), edge(0, 1, 1), edge(2, 3, 1), STRONG, row(3)]
        told = ask(*part, BEGIN, *part)
        self.assertEqual(told[:5], [[0], [0], [0], [1, 4, 1, 0, 0], [1, 4]])
        self.assertEqual(told[6:], told[:5])


class Size(unittest.TestCase):
    def test_each_size_has_its_points_and_no_edges(self):
        for n in range(1, 65):
            told = ask(size(n), *every_row(n), row(n))
            self.assertEqual(told, [[0]] + [[0, 0]] * n + [[-1]])

    def test_outside_1_to_64(self):
        for n in (LOWEST, -64, -1, 0, 65, 66, HIGHEST):
            self.assertEqual(ask(size(n)), [[-1]])

    def test_takes_the_edges_away(self):
        told = ask(size(3), edge(0, 1, 1), size(3), *every_row(3))
        self.assertEqual(told[2:], [[0], [0, 0], [0, 0], [0, 0]])

    def test_larger_and_smaller_again(self):
        told = ask(size(2), edge(0, 1, 1), size(64), edge(0, 63, 1), size(2), *every_row(2), row(2))
        self.assertEqual(told[4:], [[0], [0, 0], [0, 0], [-1]])

    def test_refused_changes_nothing(self):
        for n in (0, 65, LOWEST, HIGHEST):
            told = ask(size(3), edge(0, 2, 1), size(n), *every_row(3), row(3))
            self.assertEqual(told[2:], [[-1], [1, 4], [0, 0], [1, 1], [-1]])


class Edge(unittest.TestCase):
    def test_sets_both_rows_and_no_other(self):
        told = ask(size(4), edge(1, 3, 1), *every_row(4))
        self.assertEqual(told[1:], [[0], [0, 0], [1, 8], [0, 0], [1, 2]])

    def test_either_way_about(self):
        self.assertEqual(ask(size(4), edge(3, 1, 1), *every_row(4)), ask(size(4), edge(1, 3, 1), *every_row(4)))

    def test_on_twice_is_on(self):
        told = ask(size(2), edge(0, 1, 1), edge(1, 0, 1), *every_row(2))
        self.assertEqual(told[1:], [[0], [0], [1, 2], [1, 1]])

    def test_off_takes_just_that_edge(self):
        told = ask(size(3), edge(0, 1, 1), edge(0, 2, 1), edge(1, 2, 1), edge(2, 0, 0), *every_row(3))
        self.assertEqual(told[4:], [[0], [1, 2], [2, 5], [1, 2]])

    def test_off_where_there_is_none(self):
        told = ask(size(3), edge(0, 1, 1), edge(0, 2, 0), edge(0, 2, 0), *every_row(3))
        self.assertEqual(told[2:], [[0], [0], [1, 2], [1, 1], [0, 0]])

    def test_bit_63(self):
        told = ask(size(64), edge(63, 0, 1), row(0), row(63), edge(63, 0, 0), row(0), row(63))
        self.assertEqual(told[1:], [[0], [1, 2 ** 63], [1, 1], [0], [0, 0], [0, 0]])

    def test_on_a_graph_of_rows(self):
        told = ask(rows([6, 5, 3]), edge(0, 1, 0), *every_row(3))
        self.assertEqual(told[1:], [[0], [1, 4], [1, 4], [2, 3]])

    def test_point_n_minus_1_and_point_n(self):
        for n in (2, 5, 64):
            told = ask(size(n), edge(0, n - 1, 1), edge(0, n, 1), edge(n, 0, 1))
            self.assertEqual(told[1:], [[0], [-1], [-1]])

    def test_no_edge_on_one_point(self):
        for u in (-1, 0, 1):
            for v in (-1, 0, 1):
                self.assertEqual(ask(edge(u, v, 1)), [[-1]])

    def test_each_refusal_changes_nothing(self):
        wrong = [
            (-1, 1, 1), (1, -1, 1), (4, 1, 1), (1, 4, 1), (-1, 4, 0), (64, 1, 1),
            (LOWEST, 1, 1), (1, HIGHEST, 1), (HIGHEST, 1, 0), (1, LOWEST, 0),
            (0, 0, 1), (0, 0, 0), (3, 3, 1),
            (0, 2, 2), (0, 2, -1), (0, 1, 2), (0, 1, -1), (0, 1, LOWEST), (0, 2, HIGHEST),
            (4, 4, 2), (0, 0, -1), (-1, 0, 3),
        ]
        for u, v, on in wrong:
            told = ask(size(4), edge(0, 1, 1), edge(2, 3, 1), edge(u, v, on), *every_row(4))
            self.assertEqual(told[3:], [[-1], [1, 2], [1, 1], [1, 8], [1, 4]], (u, v, on))


class Rows(unittest.TestCase):
    def test_the_graph_has_these_rows(self):
        for numbers in ([0], [0, 0], [2, 1], [6, 5, 3], [8, 4, 2, 1], cycle(7), petersen(), complete(64), cycle(64)):
            told = ask(rows(numbers), *every_row(len(numbers)), row(len(numbers)))
            self.assertEqual(told[0], [0])
            self.assertEqual([part[1] for part in told[1:-1]], numbers)
            self.assertEqual(told[-1], [-1])

    def test_number_k_is_the_row_of_point_k(self):
        self.assertEqual(ask(rows([6, 1, 1]), *every_row(3)), [[0], [2, 6], [1, 1], [1, 1]])

    def test_the_graph_before_is_gone(self):
        told = ask(size(5), edge(0, 4, 1), edge(0, 1, 1), rows([0, 4, 2]), *every_row(3), row(3))
        self.assertEqual(told[3:], [[0], [0, 0], [1, 4], [1, 2], [-1]])

    def test_an_empty_list_is_refused_and_the_next_call_is_read(self):
        self.assertEqual(split(answers([0, 3, 0, 4, 0])), [[0], [-1], [0, 0]])

    def test_more_than_64_rows(self):
        self.assertEqual(Graph().rows([0] * 64), [0])
        self.assertEqual(Graph().rows([0] * 65), [-1])

    def test_a_bit_from_n_on(self):
        for n in (1, 2, 3, 63):
            for bit in (n, 63):
                for u in (0, n - 1):
                    numbers = [0] * n
                    numbers[u] = 1 << bit
                    self.assertEqual(ask(rows(numbers)), [[-1]])
        self.assertEqual(ask(rows([2 ** 64 - 1])), [[-1]])

    def test_bit_63_of_64_points(self):
        numbers = [2 ** 63] + [0] * 62 + [1]
        self.assertEqual(ask(rows(numbers), row(0), row(63)), [[0], [1, 2 ** 63], [1, 1]])

    def test_a_point_that_is_its_own_neighbour(self):
        self.assertEqual(ask(rows([1])), [[-1]])
        for n in (2, 5, 64):
            for u in (0, 1, n - 1):
                numbers = complete(n)
                numbers[u] |= 1 << u
                self.assertEqual(ask(rows(numbers)), [[-1]])

    def test_a_neighbour_on_one_side_alone(self):
        for n in (2, 3, 6, 64):
            for u, v in ((0, n - 1), (n - 1, 0), (n // 2, 0), (0, n // 2), (n - 2, n - 1), (n - 1, n - 2)):
                numbers = [0] * n
                if u != v:
                    numbers[u] = 1 << v
                    self.assertEqual(ask(rows(numbers)), [[-1]])
                    numbers = complete(n)
                    numbers[u] ^= 1 << v
                    self.assertEqual(ask(rows(numbers)), [[-1]])

    def test_each_refusal_changes_nothing(self):
        for numbers in ([], [1], [2], [2, 0], [0, 1], [4, 1], [3, 1], [2, 5, 0], [2 ** 64 - 1] * 64, [7, 2, 1]):
            told = ask(size(3), edge(0, 2, 1), rows(numbers), *every_row(3), row(3))
            self.assertEqual(told[2:], [[-1], [1, 4], [0, 0], [1, 1], [-1]], numbers)

    def test_all_lists_of_three_short_rows(self):
        taken = [rows_where(3, lambda u, v: edges >> (u + v - 1) & 1 == 1) for edges in range(8)]
        for number in range(16 ** 3):
            numbers = [number & 15, number >> 4 & 15, number >> 8]
            self.assertEqual(ask(rows(numbers)), [[0] if numbers in taken else [-1]], numbers)


if __name__ == "__main__":
    unittest.main()
