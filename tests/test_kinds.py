"""Point 10."""

import itertools
import math
import unittest

from helper import CallCase, few, kinds, turned
from making import count_of_kinds, rows_that_stay, rows_to_points
from reference import words_up_to


def all_actions(size, r):
    """Every way for r letters to move so many points, each of which is come to from point 0."""
    for moves in itertools.product(itertools.permutations(range(size)), repeat=r):
        if len(rows_to_points(moves)) == size:
            yield moves


class Kinds(CallCase):
    def check(self, rows, r, expected):
        m = (1 << len(rows)) - 1
        self.assertEqual(self.ask_after(r, rows, [kinds(m)]), [expected], (rows, r))
        backwards = [turned(row) for row in reversed(rows)]
        self.assertEqual(self.ask_after(r, backwards, [kinds(m)]), [expected], (rows, r))

    def test_words_that_make_every_word(self):
        for r in range(1, 5):
            self.check([[letter] for letter in range(1, r + 1)], r, 1)
            self.check([[-letter] for letter in range(1, r + 1)] + [[1, 1]], r, 1)
        self.check([[1, 1], [1, 1, 1]], 1, 1)
        self.check([[1, 2], [1, 2, 2]], 2, 1)
        self.check([[1, 2, 3], [2, 3], [3, 3, 2], [2, 2]], 3, 0)
        self.check([[1, 2, 3], [2, 3], [3, 3, 2], [2]], 3, 1)

    def test_no_words_and_words_that_are_all_nothing(self):
        for r in range(1, 5):
            self.assertEqual(self.ask_after(r, [[1], [1], [1]], [kinds(0), kinds(8), kinds(248)]), [0, 0, 0])
            self.assertEqual(self.ask_after(r, [], [kinds(m) for m in (0, 1, 2, 255)]), [0, 0, 0, 0])
            self.check([[1, -1]], r, 0)

    def test_powers_of_the_one_letter(self):
        for n in range(1, 17):
            self.check([[1] * n], 1, n)
            self.check([[1] * n, []], 1, n)
            for other in range(1, 17):
                self.check([[1] * n, [1] * other], 1, math.gcd(n, other))
        self.check([[1] * 6, [1] * 10, [1] * 15], 1, 1)
        self.check([[1] * 8, [1] * 12, [1] * 16], 1, 4)

    def test_the_same_words_with_another_letter(self):
        for rows, count in (([[1]], 1), ([[1] * 3], 3)):
            self.check(rows, 1, count)
            for r in (2, 3, 4):
                self.check(rows, r, 0)
        for rows, count in (([[1], [2]], 1), ([[1, 1], [2], [1, 2, -1]], 2), ([[1, 1], [1, 2], [2, 1]], 2)):
            self.check(rows, 2, count)
            for r in (3, 4):
                self.check(rows, r, 0)
        self.check([[1], [2], [3]], 3, 1)
        self.check([[1], [2], [3]], 4, 0)

    def test_two_kinds(self):
        self.check([[1, 1]], 1, 2)
        self.check([[1, 1], [1, 2], [1, -2]], 2, 2)
        self.check([[1], [2, 2], [2, 1, -2]], 2, 2)
        self.check([[1, 1], [2], [3], [1, 2, -1], [1, 3, -1]], 3, 2)
        self.check([[1, 1], [1, 2], [1, 3], [2, 1], [3, 1]], 3, 2)
        self.check([[1, 1], [1, 2], [1, 3], [1, 4], [2, 1], [3, 1], [4, 1]], 4, 2)
        self.check([[1, 1], [2], [3], [4], [1, 2, -1], [1, 3, -1], [1, 4, -1]], 4, 2)

    def test_no_end_of_kinds(self):
        for rows in ([[1]], [[2]], [[1, 2]], [[1, 1], [2, 2]], [[1], [2, 1, -2]], [[1], [2, 2]], [[1, 2], [2, 1]],
                     [[1, 2, -1, -2]], [[1] * place + [2] + [-1] * place for place in range(8)],
                     [[2, 1, -2], [2, 2, 1, -2, -2]], [[1, 1], [2], [1, 1, 2, 2, 1, 1]]):
            for r in (2, 3, 4):
                self.check(rows, r, 0)
        self.check([[1], [2], [1, 3, 3, -1]], 3, 0)
        self.check([[1, 1], [2, 2], [3, 3]], 3, 0)

    def test_the_base_beside_all_the_rest(self):
        # Words of two kinds with a letter before and its opposite behind: one that's among them, one that isn't.
        self.check([[2, 1, 1, -2], [2, 2, -2], [2, 1, 2, -1, -2]], 2, 2)
        self.check([[3, 1, 1, -3], [3, 2, -3], [3, 1, 2, -1, -3]], 3, 0)

    def test_every_way_to_move_few_points(self):
        # Eight words are enough for no more than 7 kinds with 2 letters, 3 with 3, 2 with 4.
        for r, greatest in ((1, 6), (2, 4), (3, 2), (4, 2)):
            for size in range(1, greatest + 1):
                for moves in all_actions(size, r):
                    rows = rows_that_stay(moves)
                    self.check(rows, r, size)
                    if len(rows) > 1:
                        self.check(rows[1:], r, 0)
                        self.check(rows[:-1], r, 0)

    def test_three_kinds_with_three_letters(self):
        for moves in all_actions(3, 3):
            rows = rows_that_stay(moves)
            self.assertEqual(self.ask_after(3, rows, [few(255), kinds(255), kinds(127)]), [7, 3, 3])
            self.assertEqual(self.ask_after(3, rows[:-1], [kinds(255)]), [0])

    def test_five_to_seven_kinds_with_two_letters(self):
        for size in (5, 6, 7):
            round_all = tuple((point + 1) % size for point in range(size))
            for swapped in range(1, size):
                swap = list(range(size))
                swap[0], swap[swapped] = swapped, 0
                for moves in ((round_all, tuple(swap)), (tuple(swap), round_all), (round_all, round_all)):
                    rows = rows_that_stay(moves)
                    self.check(rows, 2, size)
                    self.check(rows[1:], 2, 0)
                    self.check(rows[:-1], 2, 0)

    def test_every_three_short_words(self):
        words = words_up_to(2, 2)[1:]
        for rows in itertools.combinations(words, 3):
            self.assertEqual(self.ask_after(2, rows, [kinds(7)]), [count_of_kinds(rows, 2)], rows)


if __name__ == "__main__":
    unittest.main()
