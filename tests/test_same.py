"""Point 11."""

import itertools
import unittest

from helper import CallCase, same, turned
from making import is_made, rows_that_stay
from reference import power, product, words_up_to


class Same(CallCase):
    def check(self, rows, others, expected, r=4):
        rows, others = list(rows), list(others)
        self.assertLessEqual(len(rows) + len(others), 8)
        m = (1 << len(rows)) - 1
        n = ((1 << len(others)) - 1) << len(rows)
        given = self.ask_after(r, rows + others, [same(m, n), same(n, m), same(m, m), same(n, n)])
        self.assertEqual(given, [expected, expected, 1, 1], (rows, others))

    def test_nothing_on_either_side(self):
        self.check([], [], 1)
        self.check([[]], [], 1)
        self.check([[], []], [[1, -1]], 1)
        for row in ([1], [1, 1], [1, 2, -1, -2]):
            self.check([], [row], 0)
            self.check([[], []], [row, []], 0)
            self.check([[], row], [row, []], 1)

    def test_m_the_same_as_n(self):
        rows = [[1, 2], [2, 2, 1], [1] * 3, [], [2, 1], [1, 2], [-1, 2], [2] * 5]
        for m in range(256):
            self.assertEqual(self.ask_after(2, rows, [same(m, m)]), [1], m)

    def test_the_same_words_in_another_order(self):
        rows = [[1, 2], [2, 2, 1], [-2, 3], [4, 4]]
        for others in itertools.permutations(rows):
            self.check(rows, others, 1)
            self.check(rows, [turned(row) for row in others], 1)

    def test_one_word_in_two_places(self):
        rows = [[1, 2], [2, 1], [1, 2], [2, 1], [-2, -1]]
        asked = [same(1, 4), same(1, 16), same(3, 12), same(3, 24), same(5, 16), same(1, 2), same(3, 5)]
        self.assertEqual(self.ask_after(2, rows, asked), [1, 1, 1, 1, 1, 0, 0])

    def test_other_words_that_make_the_same(self):
        self.check([[1], [2]], [[1, 2], [2]], 1)
        self.check([[1], [2]], [[1, 2], [1, 2, 2]], 1)
        self.check([[1], [2]], [[1, 1], [1, 1, 1], [2, 1]], 1)
        self.check([[1] * 4, [1] * 6], [[-1, -1]], 1)
        self.check([[1], [2, 1, -2]], [[1, 2, 1, -2], [-1, 2, 1, -2, 1]], 0)
        self.check([[1], [2, 1, -2]], [[1, 2, 1, -2], [2, 1, 1, -2], [1, 1, 1]], 0)
        self.check([[1], [2, 1, -2]], [[1, 2, 1, -2], [2, 1, 1, -2], [2, 1, 1, 1, -2]], 1)
        self.check([[1, 1], [1, 2], [2, 1]], [[2, 2], [1, -2], [-1, 2], [1, 1]], 1)
        self.check([[1, 2, 3], [3, 3]], [[1, 2, -3], [3, 3], [1, 2, 3, 3, 3]], 1)

    def test_products_put_in_the_place_of_words(self):
        rows = [[1, 2], [2, 2, 1], [-2, 3]]
        for first, second in itertools.permutations(range(3), 2):
            for side in (rows[second], turned(rows[second])):
                others = list(rows)
                others[first] = product(rows[first], side)
                self.check(rows, others, 1)
                others[first] = product(side, rows[first])
                self.check(rows, others, 1)
                others[first] = product(rows[first], rows[first])
                self.check(rows, others, 0)

    def test_more_on_one_side_alone(self):
        self.check([[1]], [[1], [2]], 0)
        self.check([[1, 1]], [[1]], 0)
        self.check([[1, 1], [2]], [[1], [2]], 0)
        self.check([[1, 2], [2, 1]], [[1], [2]], 0)
        self.check([[1], [2, 1, -2]], [[1], [2]], 0)
        self.check([[1, 2, -1, -2]], [[1], [2]], 0)
        for row in ([1], [1, 2], [2, 1, -2]):
            for n in range(1, 5):
                for other in range(1, 5):
                    self.check([power(row, n)], [power(row, other)], 1 if n == other else 0)

    def test_neither_side_makes_all_of_the_other(self):
        self.check([[1]], [[2]], 0)
        self.check([[1, 2]], [[2, 1]], 0)
        self.check([[1, 1]], [[1, 1, 1]], 0)
        self.check([[1], [2, 2]], [[1, 1], [2]], 0)
        self.check([[1, 2], [3]], [[1], [2, 3]], 0)

    def test_as_many_kinds_but_others(self):
        self.check([[1, 1], [2], [1, 2, -1]], [[2, 2], [1], [2, 1, -2]], 0, 2)
        self.check([[1, 1], [2], [1, 2, -1]], [[1, 1], [1, 2], [2, 1]], 0, 2)

    def test_words_that_leave_a_point_where_it_is(self):
        actions = [moves for moves in itertools.product(itertools.permutations(range(3)), repeat=2)
                   if len(rows_that_stay(moves)) == 4]
        self.assertEqual(len(actions), 26)
        for moves, others in itertools.product(actions, repeat=2):
            # The same words stay if the other two points only have other names.
            renamed = [tuple((0, 2, 1)[images[point]] for point in (0, 2, 1)) for images in moves]
            expected = 1 if list(others) in (list(moves), renamed) else 0
            self.check(rows_that_stay(moves), [turned(row) for row in rows_that_stay(others)], expected, 2)

    def test_every_two_and_two_short_words(self):
        pairs = list(itertools.combinations_with_replacement(words_up_to(2, 2), 2))[::2]
        for rows in pairs:
            for others in pairs:
                expected = all(is_made(rows, row) for row in others) and all(is_made(others, row) for row in rows)
                given = self.ask_after(2, rows + others, [same(3, 12)])
                self.assertEqual(given, [1 if expected else 0], (rows, others))


if __name__ == "__main__":
    unittest.main()
