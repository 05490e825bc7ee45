"""Points 12 to 14: switch, turn, odds; and what they leave behind for the other calls."""

import unittest
from itertools import combinations

from tests.calls import ALL_BITS, BEGIN, GIRTH, ODDS, STRONG, TURN, WIDE
from tests.calls import ask, ask_of_each, common, complete, cycle, edge, every_row, far, from_edges, graphs_of, matching
from tests.calls import neighbours_of, paley, pass_of, path, petersen, rook, row, rows, rows_where, scattered, size
from tests.calls import switch, two_sides


def switched_by_words(numbers, s):
    """Neighbours where one of both is in the set just if they were none, else just if they were."""
    return rows_where(len(numbers), lambda u, v: (numbers[u] >> v & 1 == 1) != ((s >> u & 1) != (s >> v & 1)))


def turned_by_words(numbers):
    return rows_where(len(numbers), lambda u, v: numbers[u] >> v & 1 == 0)


def odds_by_words(numbers):
    near = neighbours_of(numbers)
    threes = combinations(range(len(numbers)), 3)
    return sum(((v in near[u]) + (w in near[u]) + (w in near[v])) in (1, 3) for u, v, w in threes)


def rows_behind(numbers, *calls):
    """The rows that row tells behind these calls, each of which answers 0, on the graph of these rows."""
    told = ask(rows(numbers), *calls, *every_row(len(numbers)))
    if told[:len(calls) + 1] != [[0]] * (len(calls) + 1):
        raise AssertionError(f"not all calls were answered by 0: {told}")
    found = told[len(calls) + 1:]
    if [part[0] for part in found] != [bin(part[1]).count("1") for part in found]:
        raise AssertionError(f"rows and their counts disagree: {found}")
    return [part[1] for part in found]


SOME = [path(6), petersen(), cycle(7), [0] * 9, complete(9), two_sides(10), scattered(12, 5, 20), scattered(64, 3, 32),
        [0] * 64, complete(64), matching(64), rook(8)]


class Switch(unittest.TestCase):
    def test_about_one_point(self):
        told = ask(size(4), edge(0, 1, 1), edge(2, 3, 1), switch(1), *every_row(4))
        self.assertEqual(told[3:], [[0], [2, 12], [0, 0], [2, 9], [2, 5]])

    def test_about_two_points(self):
        # 0 and 1 stay neighbours, 2 and 3 stay none, the four between are turned about
        told = ask(size(4), edge(0, 1, 1), edge(0, 2, 1), switch(3), *every_row(4))
        self.assertEqual(told[3:], [[0], [2, 10], [3, 13], [1, 2], [2, 3]])

    def test_no_point(self):
        for numbers in SOME:
            self.assertEqual(rows_behind(numbers, switch(0)), numbers)

    def test_all_points(self):
        for numbers in SOME:
            n = len(numbers)
            self.assertEqual(rows_behind(numbers, switch((1 << n) - 1)), numbers)
            self.assertEqual(rows_behind(numbers, switch(ALL_BITS)), numbers)

    def test_bit_63(self):
        told = ask(size(64), switch(2 ** 63), row(63), row(0), row(62), edge(63, 62, 0), switch(2 ** 63), row(63))
        self.assertEqual(told, [[0], [0], [63, 2 ** 63 - 1], [1, 2 ** 63], [1, 2 ** 63], [0], [0], [1, 2 ** 62]])

    def test_bits_from_n_on_do_not_matter(self):
        for numbers in ([0], [0, 0], path(6), petersen(), complete(63), [0] * 63):
            n = len(numbers)
            for s in (0, 1, 5, 1 << (n - 1)):
                told = rows_behind(numbers, switch(s & ((1 << n) - 1)))
                for more in (1 << n, 2 ** 63, ALL_BITS >> n << n):
                    self.assertEqual(rows_behind(numbers, switch(s & ((1 << n) - 1) | more)), told)

    def test_one_point_alone(self):
        for s in (0, 1, 2, 2 ** 63, ALL_BITS):
            self.assertEqual(ask(switch(s), row(0), row(1)), [[0], [0, 0], [-1]])

    def test_a_size_that_comes_later_has_no_bits_left(self):
        told = ask(size(2), switch(ALL_BITS - 1), size(4), *every_row(4))
        self.assertEqual(told[2:], [[0]] + [[0, 0]] * 4)

    def test_as_the_words_say(self):
        for numbers in SOME:
            for s in (1, 2, 6, 0x5555555555555555, 0x00000000ffffffff, 0x123456789abcdef0, 2 ** 63 + 1, ALL_BITS - 1):
                self.assertEqual(rows_behind(numbers, switch(s)), switched_by_words(numbers, s))

    def test_every_graph_and_set_of_up_to_4_points(self):
        for n in range(1, 5):
            for numbers in graphs_of(n):
                for s in range(1 << (n + 1)):
                    self.assertEqual(rows_behind(numbers, switch(s)), switched_by_words(numbers, s))

    def test_twice_is_not_at_all(self):
        for numbers in SOME:
            self.assertEqual(rows_behind(numbers, switch(0x123456789abcdef0), switch(0x123456789abcdef0)), numbers)

    def test_one_set_behind_another(self):
        for numbers in SOME:
            self.assertEqual(rows_behind(numbers, switch(0b0111), switch(0b1101)), rows_behind(numbers, switch(0b1010)))

    def test_the_graph_may_be_told_back(self):
        for numbers in SOME:
            told = rows_behind(numbers, switch(0x8000000000000005))
            self.assertEqual(ask(rows(told)), [[0]])


class Turn(unittest.TestCase):
    def test_a_small_graph(self):
        told = ask(size(4), edge(0, 1, 1), edge(1, 2, 1), TURN, *every_row(4))
        self.assertEqual(told[3:], [[0], [2, 12], [1, 8], [2, 9], [3, 7]])

    def test_one_point(self):
        self.assertEqual(ask(TURN, row(0), TURN, row(0), row(1)), [[0], [0, 0], [0], [0, 0], [-1]])

    def test_two_points(self):
        self.assertEqual(ask(size(2), TURN, *every_row(2), TURN, *every_row(2))[1:],
                         [[0], [1, 2], [1, 1], [0], [0, 0], [0, 0]])

    def test_none_and_all(self):
        for n in range(1, 65):
            self.assertEqual(rows_behind([0] * n, TURN), complete(n))
            self.assertEqual(rows_behind(complete(n), TURN), [0] * n)

    def test_as_the_words_say(self):
        for numbers in SOME:
            self.assertEqual(rows_behind(numbers, TURN), turned_by_words(numbers))
            self.assertEqual(rows_behind(numbers, TURN, TURN), numbers)

    def test_every_graph_of_up_to_4_points(self):
        for n in range(1, 5):
            for numbers in graphs_of(n):
                self.assertEqual(rows_behind(numbers, TURN), turned_by_words(numbers))

    def test_the_graph_may_be_told_back(self):
        for numbers in SOME:
            self.assertEqual(ask(rows(rows_behind(numbers, TURN))), [[0]])


class Odds(unittest.TestCase):
    def test_fewer_than_three_points(self):
        self.assertEqual(ask(ODDS, size(1), ODDS, size(2), ODDS, edge(0, 1, 1), ODDS)[0::2], [[0]] * 4)

    def test_0_to_3_edges_among_three_points(self):
        told = ask(size(3), ODDS, edge(0, 1, 1), ODDS, edge(1, 2, 1), ODDS, edge(0, 2, 1), ODDS)
        self.assertEqual(told[1::2], [[0], [1], [0], [1]])
        for edges in ({(0, 1)}, {(0, 2)}, {(1, 2)}):
            self.assertEqual(ask(rows(from_edges(3, edges)), ODDS, TURN, ODDS)[1::2], [[1], [0]])

    def test_known_graphs(self):
        known = [([0] * 64, 0), (complete(64), 41664), (complete(3), 1), (complete(4), 4), (two_sides(64), 0),
                 (path(4), 2), (cycle(4), 0), (cycle(5), 5), (matching(64), 32 * 62), (petersen(), 60)]
        for numbers, many in known:
            self.assertEqual(ask(rows(numbers), ODDS), [[0], [many]])

    def test_every_three_of_64_points_is_seen(self):
        for u, v, w in ((0, 1, 2), (0, 1, 63), (0, 62, 63), (61, 62, 63), (20, 40, 60)):
            # 61 threes hold an edge and no other of these points; the three itself has three edges
            told = ask(size(64), edge(u, v, 1), ODDS, edge(v, w, 1), ODDS, edge(u, w, 1), ODDS)
            self.assertEqual(told[2::2], [[62], [61 * 2], [61 * 3 + 1]])

    def test_every_graph_of_up_to_5_points(self):
        for n in range(1, 6):
            graphs = list(graphs_of(n))
            self.assertEqual(ask_of_each(graphs, ODDS), [[[odds_by_words(numbers)]] for numbers in graphs])

    def test_other_graphs(self):
        graphs = SOME + [scattered(n, n, share) for n in (6, 13, 20, 33) for share in (5, 20, 32, 50, 60)]
        self.assertEqual(ask_of_each(graphs, ODDS), [[[odds_by_words(numbers)]] for numbers in graphs])

    def test_switch_leaves_them_and_turn_takes_the_others(self):
        for numbers in SOME:
            n = len(numbers)
            told = ask(rows(numbers), ODDS, switch(0x0f0f0f0f0f0f0f05), ODDS, TURN, ODDS)
            self.assertEqual(told[1], told[3])
            self.assertEqual(told[1][0] + told[5][0], n * (n - 1) * (n - 2) // 6)

    def test_changes_nothing(self):
        for numbers in SOME:
            told = ask(rows(numbers), ODDS, *every_row(len(numbers)), ODDS)
            self.assertEqual([part[1] for part in told[2:-1]], numbers)
            self.assertEqual(told[1], told[-1])


class Together(unittest.TestCase):
    def test_what_turn_changed_is_told(self):
        told = ask(rows(cycle(5)), edge(0, 1, 0), TURN, row(0), common(0, 1), common(2, 4), far(0, 4), far(3, 4), WIDE,
                   GIRTH, ODDS, STRONG, edge(0, 1, 0), STRONG, GIRTH, far(3, 4))
        self.assertEqual(told, [[0], [0], [0], [3, 14], [1], [0], [2], [2], [2], [3], [4], [-2], [0], [1, 5, 2, 0, 1],
                                [5], [2]])

    def test_what_switch_changed_is_told(self):
        told = ask(size(6), GIRTH, WIDE, ODDS, switch(0b010101), row(1), common(0, 2), far(0, 2), far(0, 1), WIDE,
                   GIRTH, ODDS, STRONG, pass_of(6, 3, 0, 3), edge(0, 1, 0), far(0, 1), WIDE, GIRTH, ODDS, STRONG)
        self.assertEqual(told, [[0], [0], [-2], [0], [0], [3, 21], [3], [2], [1], [2], [4], [0], [1, 6, 3, 0, 3], [1],
                                [0], [3], [3], [4], [4], [-2]])

    def test_what_rows_and_edge_changed_is_turned_about(self):
        told = ask(rows(path(4)), switch(0b0110), rows([6, 5, 3]), edge(1, 2, 0), TURN, *every_row(3), far(1, 2),
                   far(0, 1), row(3), ODDS, GIRTH, WIDE)
        self.assertEqual(told[5:], [[0, 0], [1, 4], [1, 2], [1], [-2], [-1], [1], [0], [-2]])

    def test_refusals_between_leave_the_graph(self):
        wrong = [size(0), size(65), edge(0, 0, 1), edge(0, 5, 1), edge(0, 1, 2), rows([1]), rows([]), row(5),
                 common(0, 5), far(0, 5), far(-1, 0), pass_of(0, 1, 1, 1), pass_of(5, 2, 0, -1)]
        for refused in wrong:
            told = ask(rows(cycle(5)), switch(2), TURN, refused, *every_row(5), far(0, 1), WIDE, GIRTH, ODDS)
            self.assertEqual(told[3], [-1])
            self.assertEqual(told[4:], ask(rows(cycle(5)), switch(2), TURN, *every_row(5), far(0, 1), WIDE, GIRTH,
                                           ODDS)[3:])

    def test_begin_again(self):
        part = [rows(petersen()), TURN, switch(7), edge(0, 9, 1), STRONG, far(0, 1), WIDE, GIRTH, ODDS, row(9)]
        told = ask(*part, BEGIN, far(0, 0), far(0, 1), WIDE, GIRTH, ODDS, TURN, switch(ALL_BITS), row(0), row(1), *part)
        self.assertEqual(told[10:20], [[0], [0], [-1], [0], [0], [0], [0], [0], [0, 0], [-1]])
        self.assertEqual(told[20:], told[:10])

    def test_strong_graphs_turned_about(self):
        for numbers in (petersen(), rook(3), rook(8), paley(13), cycle(5), matching(64)):
            told = ask(rows(numbers), STRONG, TURN, STRONG, TURN, STRONG)
            n, k, l, m = told[1][1:]
            self.assertEqual(told[3], [1, n, n - k - 1, n - 2 - 2 * k + m, n - 2 * k + l])
            self.assertEqual(told[5], told[1])

    def test_a_strong_graph_switched_into_another(self):
        # the rook's graph on 4 by 4 switched about a side's diagonal: as many neighbours each, another graph
        diagonal = sum(1 << (5 * k) for k in range(4))
        told = ask(rows(rook(4)), STRONG, switch(diagonal), STRONG, ODDS, *every_row(16))
        self.assertEqual([told[1], told[3]], [[1, 16, 6, 2, 2]] * 2)
        self.assertEqual(told[4], [odds_by_words(rook(4))])
        self.assertNotEqual([part[1] for part in told[5:]], rook(4))


if __name__ == "__main__":
    unittest.main()
