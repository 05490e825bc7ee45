"""The interface: how calls and answers stand in their lists, and that nothing is changed or kept."""

import unittest

import friendgraph.desk
from friendgraph.desk import answers
from tests.calls import matching, petersen


class Answers(unittest.TestCase):
    def test_the_empty_list(self):
        calls = []
        told = answers(calls)
        self.assertEqual(told, [])
        self.assertIsNot(told, calls)

    def test_a_whole_line_number_by_number(self):
        calls = [0, 1, 4, 2, 0, 1, 1, 2, 2, 3, 1, 4, 2, 5, 0, 0, 6, 3, 3, 6, 5, 3, 5, 0, 1, 6, 4, 3, 0, 4, 0]
        told = [1, 0, 1, 0, 1, 0, 1, 0, 2, 1, 8, 1, 1, 5, 1, 4, 1, 0, 0, 1, 0, 1, 1, 1, -2, 1, -1, 1, 0, 2, 0, 0]
        self.assertEqual(answers(calls), told)

    def test_a_refusal_is_one_number(self):
        self.assertEqual(answers([0, 1, 0, 2, 0, 0, 1, 3, 1, 1, 4, 1, 5, 0, 1, 6]),
                         [1, 0] + [1, -1] * 5 + [1, -2])

    def test_numbers_that_look_like_calls_are_read_as_handed_over(self):
        self.assertEqual(answers([0, 1, 6, 4, 6, 5, 5, 4, 2, 3, 4, 0]), [1, 0, 1, 0, 1, -1, 1, 0, 1, 0])
        self.assertEqual(answers([0, 3, 4, 4, 0, 1, 0, 4, 0]), [1, 0, 1, 0, 2, 1, 4])

    def test_whole_numbers_in_a_list(self):
        told = answers([0, 3, 10] + petersen() + [6, 4, 0, 5, 0, 1, 2, 0, 0, 0])
        self.assertIs(type(told), list)
        self.assertEqual({type(number) for number in told}, {int})

    def test_what_is_handed_in_stays_as_it_was(self):
        calls = [0, 3, 4, 2, 1, 8, 4, 2, 0, 1, 0, 2, 1, 2, 1, 6, 1, 70, 1, 64, 4, 63]
        before = list(calls)
        answers(calls)
        self.assertEqual(calls, before)

    def test_what_is_handed_in_is_not_changed_for_a_while_either(self):
        class Fixed(list):
            def refuse(self, *given):
                raise AssertionError("the list that was handed in was changed")

            __setitem__ = __delitem__ = __iadd__ = __imul__ = refuse
            append = extend = insert = pop = remove = clear = sort = reverse = refuse

        calls = [0, 3, 4, 2, 1, 8, 4, 2, 0, 1, 0, 6, 4, 2]
        self.assertEqual(answers(Fixed(calls)), answers(calls))

    def test_nothing_is_kept_from_one_time_to_the_next(self):
        first = answers([0, 3, 4] + matching(4) + [6])
        self.assertEqual(answers([0, 4, 0, 4, 1, 6]), [1, 0, 2, 0, 0, 1, -1, 1, -2])
        self.assertEqual(answers([0, 3, 4] + matching(4) + [6]), first)
        first.append(9)
        self.assertEqual(answers([]), [])

    def test_many_calls_on_many_points(self):
        calls = [0, 1, 64]
        for u in range(64):
            calls += [2, u, u ^ 1, 1]
        calls += [6] * 100 + [4, 63] * 134
        told = answers(calls)
        self.assertEqual(told, [1, 0] * 66 + [5, 1, 64, 1, 0, 0] * 100 + [2, 1, 1 << 62] * 134)

    def test_the_longest_list(self):
        one = [3, 64] + matching(64)
        calls = [0] + one * 242
        self.assertEqual(friendgraph.desk.answers(calls), [1, 0] * 243)


if __name__ == "__main__":
    unittest.main()
