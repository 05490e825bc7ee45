"""The interface: how calls and answers stand in their lists, and that nothing is changed or kept."""

import unittest

import friendgraph.desk
from friendgraph.desk import answers
from tests.calls import ALL_BITS, complete, cycle, matching, path, petersen, rook, split, two_sides

EVERY_CALL = [0, 1, 6, 3, 5] + cycle(5) + [2, 0, 1, 0, 4, 0, 5, 0, 3, 6, 7, 10, 3, 0, 1, 8, 0, 1, 9, 10, 11, 5, 12, 13]


class Answers(unittest.TestCase):
    def test_the_empty_list(self):
        calls = []
        told = answers(calls)
        self.assertEqual(told, [])
        self.assertIsNot(told, calls)

    def test_a_whole_line_number_by_number(self):
        calls = [0, 1, 4, 2, 0, 1, 1, 2, 2, 3, 1, 4, 2, 5, 0, 0, 6, 3, 3, 6, 5, 3, 5, 0, 1, 6, 4, 3, 0, 4, 0]
        told = [1, 0, 1, 0, 1, 0, 1, 0, 2, 1, 8, 1, 1, 5, 1, 4, 1, 0, 0, 1, 0, 1, 1, 1, -2, 1, -1, 1, 0, 2, 0, 0]
        self.assertEqual(answers(calls), told)

    def test_each_call_by_its_number(self):
        told = [1, 0, 1, 0, 1, 0, 1, 0, 2, 1, 16, 1, 1, 1, -2, 1, 1, 1, 4, 1, 4, 1, 0, 1, 0, 1, 0, 1, 4]
        self.assertEqual(answers(EVERY_CALL), told)

    def test_each_later_call_alone_behind_begin(self):
        self.assertEqual(answers([0, 7, 4, 1, 0, 0]), [1, 0, 1, 1])
        self.assertEqual(answers([0, 7, 4, 2, 0, 0]), [1, 0, 1, 0])
        self.assertEqual(answers([0, 8, 0, 0]), [1, 0, 1, 0])
        for number in (9, 10, 12, 13):
            self.assertEqual(answers([0, number]), [1, 0, 1, 0])
        self.assertEqual(answers([0, 11, ALL_BITS]), [1, 0, 1, 0])

    def test_a_refusal_is_one_number(self):
        self.assertEqual(answers([0, 1, 0, 2, 0, 0, 1, 3, 1, 1, 4, 1, 5, 0, 1, 6]),
                         [1, 0] + [1, -1] * 5 + [1, -2])
        self.assertEqual(answers([0, 7, 0, 1, 0, 0, 8, 0, 1, 1, 2, 8, 0, 1, 9]),
                         [1, 0] + [1, -1] * 2 + [1, 0] + [1, -2] * 2)

    def test_numbers_that_look_like_calls_are_read_as_handed_over(self):
        self.assertEqual(answers([0, 1, 6, 4, 6, 5, 5, 4, 2, 3, 4, 0]), [1, 0, 1, 0, 1, -1, 1, 0, 1, 0])
        self.assertEqual(answers([0, 3, 4, 4, 0, 1, 0, 4, 0]), [1, 0, 1, 0, 2, 1, 4])
        self.assertEqual(answers([0, 1, 13, 7, 9, 4, 1, 2, 8, 12, 10, 11, 12, 8, 2, 9, 13]),
                         [1, 0, 1, 0, 1, 1, 1, -2, 1, 0, 1, 1, 1, 0])

    def test_whole_numbers_in_a_list(self):
        for more in ([6, 4, 0, 5, 0, 1, 2, 0, 0, 0], [7, 10, 3, 0, 1, 7, 10, 3, 1, 1, 7, 0, 0, 0, 0],
                     [8, 0, 1, 8, 0, 0, 9, 10, 11, 3, 12, 13], [1, 2, 8, 0, 1, 9, 10, 13]):
            told = answers([0, 3, 10] + petersen() + more)
            self.assertIs(type(told), list)
            self.assertEqual({type(number) for number in told}, {int})

    def test_what_is_handed_in_stays_as_it_was(self):
        for calls in ([0, 3, 4, 2, 1, 8, 4, 2, 0, 1, 0, 2, 1, 2, 1, 6, 1, 70, 1, 64, 4, 63], list(EVERY_CALL),
                      [0, 3, 4, 2, 1, 8, 4, 11, 5, 12, 10, 13, 9, 8, 0, 3, 2, 0, 1, 1, 11, ALL_BITS, 12]):
            before = list(calls)
            told = answers(calls)
            self.assertEqual(calls, before)
            self.assertEqual(answers(calls), told)
            self.assertEqual(calls, before)

    def test_what_is_handed_in_is_not_changed_for_a_while_either(self):
        class Fixed(list):
            def refuse(self, *given):
                raise AssertionError("the list that was handed in was changed")

            __setitem__ = __delitem__ = __iadd__ = __imul__ = refuse
            append = extend = insert = pop = remove = clear = sort = reverse = refuse

        for calls in ([0, 3, 4, 2, 1, 8, 4, 2, 0, 1, 0, 6, 4, 2], EVERY_CALL):
            self.assertEqual(answers(Fixed(calls)), answers(calls))

    def test_nothing_is_kept_from_one_time_to_the_next(self):
        first = answers([0, 3, 4] + matching(4) + [6])
        self.assertEqual(answers([0, 4, 0, 4, 1, 6]), [1, 0, 2, 0, 0, 1, -1, 1, -2])
        self.assertEqual(answers([0, 3, 4] + matching(4) + [6]), first)
        first.append(9)
        self.assertEqual(answers([]), [])

    def test_nothing_of_a_switched_and_turned_graph_is_kept(self):
        answers([0, 3, 4] + matching(4) + [12, 11, 5, 9, 10, 13])
        self.assertEqual(answers([0, 4, 0, 9, 10, 13, 1, 4, 4, 3, 9, 10, 13]),
                         [1, 0, 2, 0, 0, 1, 0, 1, 0, 1, 0, 1, 0, 2, 0, 0, 1, -2, 1, 0, 1, 0])

    def test_many_calls_on_many_points(self):
        calls = [0, 1, 64]
        for u in range(64):
            calls += [2, u, u ^ 1, 1]
        calls += [6] * 100 + [4, 63] * 134
        told = answers(calls)
        self.assertEqual(told, [1, 0] * 66 + [5, 1, 64, 1, 0, 0] * 100 + [2, 1, 1 << 62] * 134)

    def test_each_question_on_64_points(self):
        known = [
            ([0] * 64, [-2, -2, -2, 0, 0]), (matching(64), [1, -2, -2, 0, 1984]), (path(64), [-2, 63, 63, 0, 3782]),
            (cycle(64), [-2, 1, 32, 64, 3840]), (rook(8), [1, 2, 2, 3, 19712]), (two_sides(64), [1, 1, 2, 4, 0]),
            (complete(64), [-2, 1, 1, 3, 41664]),
        ]
        for numbers, told in known:
            parts = split(answers([0, 3, 64] + numbers + [6, 8, 0, 63, 9, 10, 13]))
            self.assertEqual([part[0] for part in parts[2:]], told)

    def test_300_calls_of_one_sort_on_64_points(self):
        for numbers in (path(64), complete(64)):
            for call in ([5, 0, 63], [6], [7, 10000, 198, 98, 2], [8, 0, 63], [9], [10], [13]):
                told = answers([0, 3, 64] + numbers + call)
                self.assertEqual(answers([0, 3, 64] + numbers + call * 298), told[:4] + told[4:] * 298)

    def test_300_calls_that_turn_64_points_about(self):
        for numbers in ([0] * 64, matching(64), complete(64)):
            for calls in ([11, 0x5555555555555555] * 296, [12] * 296, [11, ALL_BITS] * 296, [12, 11, 2 ** 63] * 148):
                parts = split(answers([0, 3, 64] + numbers + calls + [4, 0, 4, 63]))
                self.assertEqual(len(parts), 300)
                self.assertEqual([parts[-2][1], parts[-1][1]], [numbers[0], numbers[63]])

    def test_300_calls_mixed(self):
        # the edge is taken off the turned graph, so it is there once that is turned back
        one = [2, 0, 63, 1, 11, 2 ** 63 + 1, 12, 8, 0, 63, 9, 10, 13, 6, 5, 0, 63, 4, 63, 7, 9, 4, 1, 2, 2, 0, 63, 0,
               12, 11, 2 ** 63 + 1]
        parts = split(answers([0, 3, 64] + path(64) + one * 21 + [8, 0, 63, 9, 10, 13]))
        self.assertEqual(len(parts), 300)
        self.assertEqual(parts[2:296], parts[2:16] * 21)
        self.assertEqual(parts[296:], [[1], [32], [64], [3840]])

    def test_the_longest_list(self):
        one = [3, 64] + matching(64)
        calls = [0] + one * 242
        self.assertEqual(friendgraph.desk.answers(calls), [1, 0] * 243)


if __name__ == "__main__":
    unittest.main()
