"""Points 4 and 5."""

import unittest

from helper import CallCase, NO_SLOTS, begin, letters, opposite, times, turned, word


class Times(CallCase):
    def check(self, first, second, product):
        calls = [begin(), letters(4), word(1, first), word(2, second), times(1, 2, 0)]
        self.assertEqual(self.last(calls), len(product))
        self.assert_words(calls, {0: product, 1: first, 2: second})

    def test_nothing_meets(self):
        self.check([1, 2], [1], [1, 2, 1])
        self.check([3], [-4, 1, 1], [3, -4, 1, 1])
        self.check([1], [1], [1, 1])

    def test_letters_go_out_where_the_two_meet(self):
        self.check([1, 2], [-2, 3], [1, 3])
        self.check([1, 2, 3], [-3, -2, 4], [1, 4])
        self.check([1, 2, 3], [-3, -2], [1])
        self.check([3], [-3, -2], [-2])
        self.check([1, 2, 3], [-3, -2, -1], [])

    def test_in_the_told_order(self):
        self.check([1], [2], [1, 2])
        self.check([2], [1], [2, 1])

    def test_nothing_as_a_factor(self):
        self.check([], [], [])
        self.check([1, 2], [], [1, 2])
        self.check([], [1, 2], [1, 2])

    def test_k_the_same_as_i_or_j(self):
        before = [begin(), word(1, [1, 2]), word(2, [-2, 2, 1])]
        self.assert_words(before + [times(1, 2, 1)], {1: [1, 2, 1], 2: [1]})
        self.assert_words(before + [times(1, 2, 2)], {1: [1, 2], 2: [1, 2, 1]})
        self.assertEqual(self.last(before + [times(1, 2, 2)]), 3)

    def test_i_the_same_as_j(self):
        before = [begin(), word(1, [1, 2, -1])]
        self.assertEqual(self.last(before + [times(1, 1, 0)]), 4)
        self.assert_words(before + [times(1, 1, 0)], {0: [1, 2, 2, -1], 1: [1, 2, -1]})
        self.assert_words(before + [times(1, 1, 1)], {1: [1, 2, 2, -1]})

    def test_16_letters(self):
        self.check([1] * 8, [2] * 8, [1] * 8 + [2] * 8)
        self.check([1] * 16, [], [1] * 16)
        self.check([1] * 16, [-1], [1] * 15)
        self.check([1] * 12 + [2] * 4, [-2] * 4 + [1] * 4, [1] * 16)
        self.check([1] * 16, [-1] * 16, [])

    def test_17_letters_and_more_change_nothing(self):
        for first, second in (([1] * 9, [2] * 8), ([1] * 16, [1]), ([2], [1] * 16), ([1] * 16, [2] * 16),
                              ([1] * 13 + [2] * 3, [-2] * 3 + [1] * 4)):
            before = [begin(), word(1, first), word(2, second), word(0, [2, 1])]
            expected = {0: [2, 1], 1: first, 2: second}
            for k in (0, 1, 2, 7):
                self.assert_refused(before, times(1, 2, k), -2, expected, 2)

    def test_each_of_the_three_outside(self):
        before = [begin(), word(0, [1]), word(7, [2])]
        for wrong in NO_SLOTS:
            for call in (times(wrong, 0, 7), times(0, wrong, 7), times(0, 7, wrong), times(wrong, wrong, wrong)):
                self.assert_refused(before, call, -1, {0: [1], 7: [2]}, 2)

    def test_minus_1_ahead_of_minus_2(self):
        before = [begin(), word(0, [1] * 16), word(7, [2] * 16)]
        for wrong in NO_SLOTS:
            self.assert_refused(before, times(0, 7, wrong), -1, {0: [1] * 16, 7: [2] * 16}, 2)


class Opposite(CallCase):
    def check(self, row, expected):
        calls = [begin(), letters(4), word(7, row), opposite(7, 0)]
        self.assertEqual(self.last(calls), len(expected))
        self.assert_words(calls, {0: expected, 7: row})

    def test_of_nothing(self):
        self.check([], [])
        self.assert_words([begin(), word(1, [1, 2]), opposite(0, 1)], {})

    def test_of_one_letter(self):
        self.check([1], [-1])
        self.check([-4], [4])

    def test_of_many(self):
        self.check([1, 2, 3], [-3, -2, -1])
        self.check([1, 1, -2, 4], [-4, 2, -1, -1])
        self.check([1, 2] * 8, [-2, -1] * 8)

    def test_k_the_same_as_i(self):
        calls = [begin(), word(3, [1, 2, 2]), opposite(3, 3)]
        self.assertEqual(self.ask(calls), [0, 3, 3])
        self.assert_words(calls, {3: [-2, -2, -1]})
        self.assert_words(calls + [opposite(3, 3)], {3: [1, 2, 2]})

    def test_the_product_with_it_is_nothing(self):
        for row in ([1], [1, 2, -1], [2, 2, 1, -2]):
            calls = [begin(), word(0, row), opposite(0, 1), times(0, 1, 2), times(1, 0, 3)]
            self.assertEqual(self.ask(calls)[-2:], [0, 0])
            self.assert_words(calls, {0: row, 1: turned(row)})

    def test_each_of_the_two_outside(self):
        before = [begin(), word(0, [1]), word(7, [2])]
        for wrong in NO_SLOTS:
            for call in (opposite(wrong, 0), opposite(0, wrong), opposite(wrong, wrong)):
                self.assert_refused(before, call, -1, {0: [1], 7: [2]}, 2)


if __name__ == "__main__":
    unittest.main()
