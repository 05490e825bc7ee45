"""Point 8: pass."""

import unittest

from friendgraph.passing import comes_out_even, whole_root
from tests.calls import HIGHEST, LOWEST, STRONG
from tests.calls import all_but_matching, ask, cycle, edge, every_row, graphs_of, matching, paley, pass_of, petersen
from tests.calls import rook, rows, rows_where, size, two_sides


def pass_by_words(n, k, l, m):
    """What pass answers, told by the document's words; for numbers whose d is below 200."""
    if not 1 <= k <= n - 2 or k * (k - l - 1) != (n - k - 1) * m:
        return [0]
    e = 2 * k + (n - 1) * (l - m)
    if e == 0:
        return [1]
    fitting = [d for d in range(1, 200) if d ** 2 == (l - m) ** 2 + 4 * (k - m) and e % d == 0]
    return [1] if any((n - 1 - e // d) % 2 == 0 for d in fitting) else [0]


def ask_all(fours):
    """What pass answers of each four numbers, asked in lines of 299 at most."""
    told = []
    for start in range(0, len(fours), 299):
        told += ask(*[pass_of(*four) for four in fours[start:start + 299]])
    return told


class Pass(unittest.TestCase):
    def each_is(self, told, fours):
        for four in fours:
            self.assertEqual(ask(pass_of(*four)), [[told]], four)

    def test_e_is_0(self):
        # with a square and without one
        self.each_is(1, [(9, 4, 1, 2), (25, 12, 5, 6), (5, 2, 0, 1), (13, 6, 2, 3), (21, 10, 4, 5), (33, 16, 7, 8)])

    def test_e_is_0_and_the_numbers_do_not_balance(self):
        self.each_is(0, [(5, 2, 1, 2), (9, 4, 2, 3), (5, 2, 4, 5), (3, 1, 4, 5)])

    def test_a_square_and_even(self):
        # e above 0 with l - m of 0, above 0 and below 0; then e below 0
        self.each_is(1, [(16, 6, 2, 2), (6, 2, 1, 0), (16, 9, 4, 6), (10, 6, 3, 4), (26, 15, 8, 9)])
        self.each_is(1, [(10, 3, 0, 1), (50, 7, 0, 1), (4, 2, 0, 2), (6, 3, 0, 3), (3250, 57, 0, 1)])

    def test_a_square_and_odd(self):
        self.each_is(0, [(5, 1, 0, 0), (7, 1, 0, 0), (6, 3, 2, 0), (9, 5, 4, 0)])
        self.each_is(0, [(5, 3, 1, 3), (7, 5, 3, 5), (10, 6, 2, 6)])

    def test_a_square_whose_root_does_not_divide(self):
        self.each_is(0, [(15, 7, 3, 3), (28, 18, 11, 12), (4, 2, 1, 0), (5, 2, 1, 0)])
        self.each_is(0, [(7, 4, 1, 4), (8, 5, 2, 5), (9, 5, 1, 5)])

    def test_no_square(self):
        self.each_is(0, [(7, 3, 1, 1), (17, 12, 8, 9), (9, 4, 2, 1)])
        self.each_is(0, [(7, 3, 0, 2), (11, 5, 1, 3), (5, 3, 0, 6), (7, 5, 0, 20)])

    def test_a_square_of_0_and_below_0(self):
        # l - m, k - m: 2, -1; -2, -1; 0, -1; 1, -3
        self.each_is(0, [(10, 3, 6, 4), (10, 3, 2, 4), (10, 3, 4, 4), (10, 3, 7, 6)])
        self.assertFalse(comes_out_even(10, 3, 6, 4))
        self.assertFalse(comes_out_even(10, 3, 2, 4))
        self.assertFalse(comes_out_even(10, 3, 4, 4))
        self.assertFalse(comes_out_even(10, 3, 7, 6))

    def test_only_the_balance_is_wrong(self):
        self.each_is(0, [(10, 3, 0, 2), (10, 3, 1, 1), (11, 3, 0, 1), (16, 6, 2, 0), (9, 4, 1, 1), (9, 4, 2, 2)])

    def test_k_of_0_and_1(self):
        self.each_is(0, [(4, 0, 0, 0), (1, 0, 0, 0), (10000, 0, 0, 0), (9, 0, 1, 0)])
        self.each_is(1, [(4, 1, 0, 0), (6, 1, 0, 0), (10000, 1, 0, 0)])
        self.each_is(0, [(3, 1, 0, 0), (2, 1, 0, 0), (1, 1, 0, 0), (9999, 1, 0, 0)])

    def test_k_of_n_minus_2_and_beside_it(self):
        for n in (4, 6, 64, 10000):
            self.each_is(1, [(n, n - 2, n - 4, n - 2)])
            # all of complete graphs' numbers balance, whatever m is
            self.each_is(0, [(n, n - 1, n - 2, m) for m in (0, 1, 2, n - 2, n - 1, n)])
            self.each_is(0, [(n, n, n - 1, 0), (n, n, 0, 0)])

    def test_few_points(self):
        fours = [(n, k, l, m) for n in (1, 2, 3) for k in range(5) for l in range(5) for m in range(5)]
        self.assertEqual(ask_all(fours), [[0]] * len(fours))

    def test_every_four_small_numbers(self):
        fours = [(n, k, l, m) for n in range(1, 17) for k in range(n + 1) for l in range(n + 1) for m in range(n + 3)]
        told = ask_all(fours)
        self.assertEqual([four for four, one in zip(fours, told) if one != pass_by_words(*four)], [])

    def test_every_four_that_balance(self):
        fours = [(n, k, l, k * (k - l - 1) // (n - k - 1)) for n in range(1, 71) for k in range(1, n - 1)
                 for l in range(k) if k * (k - l - 1) % (n - k - 1) == 0]
        self.assertEqual(ask_all(fours), [pass_by_words(*four) for four in fours])

    def test_large_numbers(self):
        self.each_is(1, [(10000, 198, 98, 2), (9997, 4998, 2498, 2499), (10000, 4999, 4998, 0), (10000, 5000, 0, 5000)])
        self.each_is(1, [(9801, 196, 97, 2), (10000, 4950, 2450, 2450)])
        self.each_is(0, [(10000, 198, 98, 3), (9999, 198, 98, 2), (9998, 9997, 9996, 0), (9999, 9997, 9995, 9997)])

    def test_n_outside_1_to_10000(self):
        self.each_is(0, [(1, 1, 0, 0), (1, 0, 0, 0), (10000, 2, 0, 0)])
        self.each_is(-1, [(0, 1, 0, 0), (-1, 1, 0, 0), (10001, 1, 0, 0), (10002, 1, 0, 0), (LOWEST, 1, 0, 0),
                          (HIGHEST, 1, 0, 0), (-5, 2, 0, 1), (10002, 10000, 9998, 10000)])

    def test_another_outside_0_to_10000(self):
        self.each_is(0, [(10, 10000, 0, 1), (10, 3, 10000, 1), (10, 3, 0, 10000), (10000, 10000, 10000, 10000),
                         (1, 0, 0, 0), (10, 0, 0, 1), (10, 3, 0, 0)])
        for wrong in (-1, 10001, -10000, LOWEST, HIGHEST):
            self.each_is(-1, [(10, wrong, 0, 1), (10, 3, wrong, 1), (10, 3, 0, wrong), (10, wrong, wrong, wrong),
                              (1, wrong, 0, 0), (1, 0, wrong, 0), (1, 0, 0, wrong), (wrong, wrong, wrong, wrong)])

    def test_numbers_that_would_pass_but_for_the_range(self):
        fours = [(21, 4, -1, 1), (25, 6, -1, 2), (36, 5, -2, 1), (10002, 1, 0, 0)]
        self.assertEqual([pass_by_words(*four) for four in fours], [[1]] * 4)
        self.each_is(-1, fours)

    def test_the_numbers_of_strong_graphs_pass(self):
        graphs = [matching(8), all_but_matching(8), cycle(4), cycle(5), petersen(), paley(13), paley(61), rook(3),
                  rook(8), two_sides(64), rows_where(12, lambda u, v: u // 4 == v // 4)]
        graphs += list(graphs_of(5))
        strong = 0
        for numbers in graphs:
            told = ask(rows(numbers), STRONG)[1]
            if told[0] == 1:
                strong += 1
                self.assertEqual(ask(pass_of(*told[1:])), [[1]])
        self.assertGreater(strong, 11)

    def test_is_apart_from_the_graph(self):
        told = ask(pass_of(10, 3, 0, 1), size(3), edge(0, 2, 1), pass_of(10, 3, 0, 1), pass_of(0, 3, 0, 1),
                   pass_of(10, 3, 1, 1), *every_row(3))
        self.assertEqual(told, [[1], [0], [0], [1], [-1], [0], [1, 4], [0, 0], [1, 1]])


class WholeRoot(unittest.TestCase):
    def test_squares_and_what_lies_beside_them(self):
        self.assertEqual([whole_root(number) for number in (-5, -1, 0, 1, 2, 3, 4, 5)], [0, 0, 0, 1, 1, 1, 2, 2])
        for root in list(range(2, 130)) + [9999, 10000, 10001, 10002]:
            self.assertEqual([whole_root(root * root - 1), whole_root(root * root), whole_root(root * root + 1)],
                             [root - 1, root, root])


if __name__ == "__main__":
    unittest.main()
