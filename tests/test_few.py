"""Point 9."""

import itertools
import unittest

from helper import CallCase, few, turned
from making import basis, rows_that_stay
from reference import power, words_up_to


class Few(CallCase):
    def check(self, rows, expected, r=4):
        m = (1 << len(rows)) - 1
        self.assertEqual(self.ask_after(r, rows, [few(m)]), [expected], rows)
        backwards = [turned(row) for row in reversed(rows)]
        self.assertEqual(self.ask_after(r, backwards, [few(m)]), [expected], rows)

    def test_no_words(self):
        self.check([], 0)
        self.assertEqual(self.ask_after(2, [[1], [2]], [few(0), few(4), few(252)]), [0, 0, 0])

    def test_words_that_are_all_nothing(self):
        for count in range(1, 9):
            self.check([[]] * count, 0)
        self.check([[1, -1], [2, -2, -1, 1]], 0)

    def test_one_word(self):
        for row in ([1], [-2], [1, 2], [1, 2, -1], [1, 2, -1, -2], [1] * 16, [1, 2] * 8):
            self.check([row], 1)
            self.check([row, []], 1)

    def test_the_same_word_again(self):
        for row in ([1], [1, 2], [2, 1, 1, -2], [1, 2, -1, -2]):
            for count in range(2, 9):
                self.check([row] * count, 1)
            self.check([row, turned(row)], 1)

    def test_a_word_and_its_power(self):
        for row in ([1], [1, 2], [2, 1, -2], [1, 2, -1, -2]):
            for n in range(0, 5):
                self.check([row, power(row, n)], 1)
                self.check([power(row, n), turned(row)], 1)
        self.check([power([1, 2], 2), power([1, 2], 3)], 1)
        self.check([power([2, 1, -2], 4), power([2, 1, -2], 6), power([2, 1, -2], 9)], 1)

    def test_words_that_make_every_word(self):
        for rows in ([[1], [2]], [[1, 2], [2]], [[1, 2], [1, 2, 2]], [[1, 1], [1, 1, 1], [2]], [[1], [2], [1, 2]],
                     [[1], [2], [1, 1], [2, 2], [1, 2], [2, 1], [1, -2], [-1, -2]], [[1, 2, 1], [1, 2], [2, 2, 1]]):
            self.check(rows, 2, 2)
            self.check(rows, 2, 3)
        self.check([[1], [2], [3]], 3, 3)
        self.check([[1], [2], [3], [4]], 4)
        self.check([[1] * 3, [1] * 5], 1, 1)

    def test_words_of_which_one_is_made_by_the_others(self):
        self.check([[1, 1], [2, 2], [1, 1, 2, 2]], 2)
        self.check([[1, 2, 2], [-2, -2, 3], [1, 3]], 2)
        self.check([[1], [2, 1, -2], [2, 1, 1, -2, 1]], 2)
        self.check([[1], [2, 1, -2], [2, 2, 1, -2, -2]], 3)
        self.check([[1], [2, 1, -2], [2, 2, 1, -2, -2], [2, 2]], 3)

    def test_other_words_than_any_of_them(self):
        self.check([[1, 1, 2], [2, 1, 1], [2, 2]], 3)
        self.check([[1, 1, 2], [2, 1, 1], [2, 2], [1] * 4], 3)
        # With these they make 1 1 and 2, or 1 and 2, which are none of them.
        self.check([[1, 1, 2], [2, 1, 1], [2, 2], [1] * 6], 2)
        self.check([[1, 1, 2], [2, 1, 1], [2, 2], [1] * 5], 2)
        self.check([[1, 2, 3], [1, 2, 4], [1, 2, -4]], 3)
        self.check([[1] * 6, [1] * 10, [1] * 15], 1)

    def test_as_many_as_are_needed_up_to_eight(self):
        rows = [[1] * place + [2] + [-1] * place for place in range(8)]
        for count in range(9):
            self.check(rows[:count], count)
            self.check(rows[8 - count:], count)
        squares = [[first, second, first, second] for first in (1, 2) for second in (3, 4, -3, -4)]
        for count in range(9):
            self.check(squares[:count], count)

    def test_eight_words_that_two_or_three_would_do_for(self):
        self.check([[1, 2] * n for n in range(1, 6)] + [[2, 1], [2, 1, 2, 1], []], 2)
        self.check([[1, 1], [2, 2], [1, 1, 2, 2], [2, 2, 1, 1], [1, 1, 1, 1], [2, 2, 2, 2], [1, 1, -2, -2], []], 2)
        self.check([[1, 1], [1, 2], [2, 1], [2, 2], [1, -2], [-1, 2], [1, 1, 1, 1], [1, 2, 2, 1]], 3)

    def test_words_that_leave_a_point_where_it_is(self):
        for size in range(1, 8):
            round_all = tuple((point + 1) % size for point in range(size))
            swap = (1, 0) + tuple(range(2, size)) if size > 1 else (0,)
            self.check(rows_that_stay([round_all, swap]), size + 1, 2)

    def test_every_three_words_of_two_letters(self):
        words = words_up_to(2, 2)
        for first, second in itertools.product(words, repeat=2):
            for third in words:
                asked = self.ask_after(2, [first, second, third], [few(7)])
                self.assertEqual(asked, [len(basis((first, second, third)))], (first, second, third))


if __name__ == "__main__":
    unittest.main()
