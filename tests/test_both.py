"""Point 12."""

import itertools
import unittest

from helper import CallCase, both, few, kinds
from making import basis, made_by_both, moved_together, rows_that_stay, rows_to_points
from reference import power, words_up_to


class Both(CallCase):
    def check(self, rows, others, expected, r=4):
        rows, others = list(rows), list(others)
        self.assertLessEqual(len(rows) + len(others), 8)
        m = (1 << len(rows)) - 1
        n = ((1 << len(others)) - 1) << len(rows)
        given = self.ask_after(r, rows + others, [both(m, n), both(n, m)])
        self.assertEqual(given, [expected, expected], (rows, others))

    def test_nothing_beside_some_words(self):
        for rows in ([[1]], [[1], [2]], [[1, 2], [2, 1, 1]], [[1] * place + [2] for place in range(5)]):
            self.check([], rows, 0)
            self.check([[], []], rows, 0)
            self.check([[1, -1]], rows, 0)

    def test_two_sides_that_make_nothing_alone(self):
        self.check([], [], 0)
        self.check([[]], [], 0)
        self.check([[], []], [[], [2, -2]], 0)

    def test_m_the_same_as_n(self):
        rows = [[1, 2], [2, 2, 1], [1] * 3, [], [2, 1], [1, 2], [-1, 2], [2] * 5]
        for m in range(256):
            given = self.ask_after(2, rows, [both(m, m), few(m)])
            self.assertEqual(given[0], given[1], m)

    def test_one_side_makes_all_that_the_other_makes(self):
        for fewer, more in (([[1]], [[1], [2]]), ([[1, 1]], [[1]]), ([[1, 1], [2, 2], [1, 2, 2, 1]], [[1], [2]]),
                            ([[2, 1, -2]], [[1], [2, 1, -2]]), ([[1, 2], [2, 1]], [[1, 1], [1, 2], [2, 1]]),
                            ([[1, 1], [2, 2], [3, 3], [4, 4]], [[1], [2], [3], [4]]),
                            ([[1] * place + [2] + [-1] * place for place in range(6)], [[1], [2]])):
            self.check(fewer, more, len(fewer))

    def test_parts_of_the_same_words(self):
        rows = [[1], [2, 1, -2], [2, 2], [3], [4, 3, -4], [4, 4]]
        for m in range(64):
            for n in range(0, 64, 5):
                # None of these is made by the others, so both make what the words of both make.
                given = self.ask_after(4, rows, [both(m, n)])
                self.assertEqual(given, [bin(m & n).count("1")], (m, n))

    def test_powers_of_one_letter(self):
        for n in range(1, 17):
            for m in range(1, 17):
                self.check([[1] * n], [[1] * m], 1, 1)
                self.check([[1] * n], [[-1] * m], 1, 3)
                self.check([[1] * n], [[2] * m], 0, 2)

    def test_powers_of_one_letter_beside_another(self):
        for n in range(1, 8):
            for m in range(1, 8):
                self.check([[1] * n, [2]], [[1] * m, [2]], 2)
                self.check([[1] * n, [2]], [[1] * m, [3]], 1)
                self.check([[1] * n, [2, 2]], [[1] * m, [2, 2, 2]], 2)

    def test_powers_of_longer_words(self):
        for row in ([1, 2], [2, 1, -2], [1, 2, -1, -2]):
            for n in range(1, 5):
                for m in range(1, 5):
                    self.check([power(row, n)], [power(row, m)], 1)
        self.check([[1, 2]], [[2, 1]], 0)
        self.check([[1, 2, 1, 2]], [[1, 2, 2]], 0)
        self.check([[2, 1, -2]], [[1]], 0)

    def test_sides_that_share_nothing_but_nothing(self):
        self.check([[1]], [[2]], 0)
        self.check([[1], [2]], [[3], [4]], 0)
        self.check([[1, 2], [1, 3]], [[2, 1], [3, 1]], 0)
        self.check([[1], [2, 1, -2]], [[2]], 0)
        self.check([[1, 1], [2, 2]], [[1, 2]], 0)
        self.check([[1, 3], [2, 3]], [[1, 4], [2, 4]], 1)

    def test_what_is_shared_is_none_of_the_words(self):
        self.check([[1, 2], [3]], [[1], [2, 3]], 1)
        self.check([[1, 2], [2, 1]], [[1], [2, 2]], 1)
        self.check([[1, 2], [2, 2]], [[1], [2, 2]], 2)
        self.check([[1], [2]], [[1, 2], [2, 1]], 2)
        self.check([[1, 2, 3]], [[1, 2], [3]], 1)

    def test_more_are_needed_for_both_than_for_either(self):
        self.check([[1], [2, 2], [2, 1, -2]], [[2], [1, 1], [1, 2, -1]], 5, 2)
        self.check([[1], [2, 2], [2, 1, -2]], [[1], [2] * 3, [2, 1, -2], [-2, 1, 2]], 7, 2)
        self.check([[1, 1], [2], [1, 2, -1]], [[1, 1], [1, 2], [2, 1]], 5, 2)
        given = self.ask_after(2, [[1], [2, 2], [2, 1, -2], [2], [1, 1], [1, 2, -1]], [few(7), few(56), both(7, 56)])
        self.assertEqual(given, [3, 3, 5])

    def test_more_are_needed_though_there_is_no_end_of_kinds(self):
        rows = [[1], [2, 2], [2, 1, -2], [1, 1], [2], [1, 2, -1]]
        self.assertEqual(self.ask_after(3, rows, [kinds(7), kinds(56), few(7), few(56), both(7, 56)]), [0, 0, 3, 3, 5])

    def test_the_base_with_nothing_to_come_back_by(self):
        # Here the shared ways go on for a while from the base, and end.
        self.check([[1, 1, 1, 2]], [[1, 1, 1, 3]], 0)
        self.check([[1, 1, 1, 2, -1], [1, 3]], [[1, 1, 1, 3, -1], [1, 3]], 1)

    def test_words_that_leave_points_where_they_are(self):
        sides = {}
        for r, greatest in ((1, 7), (2, 4), (3, 2)):
            for size in range(1, greatest + 1):
                for moves in itertools.product(list(itertools.permutations(range(size))), repeat=r):
                    if len(rows_to_points(moves)) == size:
                        sides.setdefault((r, size), []).append(moves)
        asked = 0
        for (r, size), (s, other_size) in itertools.product(sides, repeat=2):
            if r == s and (r - 1) * (size + other_size) + 2 <= 8:
                every = list(itertools.product(sides[r, size], sides[s, other_size]))
                for moves, others in every[::1 + len(every) // 300]:
                    # Both stay for one kind in as many as the pairs of points that come from the first pair.
                    pairs = len(rows_to_points(moved_together(moves, others)))
                    self.check(rows_that_stay(moves), rows_that_stay(others), pairs * (r - 1) + 1, r)
                    asked += 1
        self.assertGreater(asked, 1000)

    def test_every_two_and_two_short_words(self):
        pairs = list(itertools.combinations(words_up_to(2, 2)[1:], 2))[::2]
        for rows in pairs:
            for others in pairs:
                expected = len(basis(made_by_both(rows, others)))
                self.assertEqual(self.ask_after(2, rows + others, [both(3, 12)]), [expected], (rows, others))


if __name__ == "__main__":
    unittest.main()
