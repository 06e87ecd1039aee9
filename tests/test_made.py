"""Point 8."""

import unittest

from helper import CallCase, begin, made, put, turned, word
from making import is_made
from reference import opposite_row, power, product, words_up_to


class Made(CallCase):
    def check(self, rows, row, expected, r=4):
        """Whether the rows, as words 0 and on, make the row, as word 7."""
        rows = list(rows)
        self.assertLess(len(rows), 8)
        m = (1 << len(rows)) - 1
        asked = [word(7, row), made(m, 7)]
        self.assertEqual(self.ask_after(r, rows, asked)[-1], expected, (rows, row))

    def test_nothing_is_made_by_every_light_m(self):
        rows = [[1], [2, 1], [1, 1, 2], [-1, 2], [2] * 5, [], [1, 2, -1, -2], []]
        for m in range(0, 256):
            self.assertEqual(self.ask_after(2, rows, [made(m, 5), made(m, 7)]), [1, 1], m)
        heavy = [[1] * 16, [], [2] * 16, [1, 2] * 8, [2, 1] * 8, [1, 1, 2, 2] * 4, [1, -2] * 8, [2, -1] * 8]
        for m in range(0, 256):
            light = sum(len(heavy[i]) for i in range(8) if m & 1 << i) <= 64
            self.assertEqual(self.ask_after(2, heavy, [made(m, 1)]), [1 if light else -1], m)

    def test_no_words_make_nothing_alone(self):
        self.check([], [], 1)
        for row in ([1], [-1], [1, 1], [1, 2, -1, -2], [1] * 16):
            self.check([], row, 0)

    def test_words_that_are_nothing(self):
        self.check([[]], [], 1)
        self.check([[], [], []], [1], 0)
        self.check([[], [1, 2], []], [1, 2, 1, 2], 1)
        self.check([[], [1, 2], []], [1], 0)
        self.check([[1, -1], [2, 2]], [2, 2], 1)

    def test_each_of_the_words_and_its_opposite(self):
        rows = [[1, 2], [2, 2, 1], [3], [1, 4, -1], [4, 4, 4, 2], [-3, 2, 3]]
        for row in rows:
            self.check(rows, row, 1)
            self.check(rows, turned(row), 1)

    def test_products(self):
        rows = [[1, 2], [2, 2, 1], [-2, 3]]
        for first in rows:
            for second in rows:
                self.check(rows, product(first, second), 1)
                self.check(rows, product(first, turned(second)), 1)
                self.check(rows, product(turned(first), second), 1)
                self.check(rows, product(product(first, second), turned(first)), 1)

    def test_powers(self):
        for row in ([1], [1, 2], [1, 2, -1], [2, 1, 1, -2]):
            for n in range(0, 5):
                self.check([row], power(row, n), 1)
                self.check([row], turned(power(row, n)), 1)

    def test_a_power_that_is_made_while_the_word_is_not(self):
        for row in ([1], [1, 2], [2, 1, -2], [-1, -2]):
            for n in range(2, 5):
                for asked in range(0, 5):
                    self.check([power(row, n)], power(row, asked), 1 if asked % n == 0 else 0)

    def test_powers_of_one_letter_together(self):
        self.check([[1] * 2, [1] * 3], [1], 1)
        self.check([[1] * 4, [1] * 6], [1, 1], 1)
        self.check([[1] * 4, [1] * 6], [1], 0)
        self.check([[1] * 4, [1] * 6], [1] * 3, 0)
        self.check([[1] * 6, [1] * 10, [1] * 15], [-1], 1, 1)
        self.check([[1] * 12, [-1] * 16], [1] * 4, 1, 1)
        self.check([[1] * 12, [-1] * 16], [1] * 2, 0, 1)

    def test_only_by_taking_out_letters_between_products(self):
        self.check([[1, 2], [2]], [1], 1)
        self.check([[1, 2, 2], [-2, -2, 3]], [1, 3], 1)
        self.check([[1, 2, 1], [1, 2, 2]], [-1, 2], 1)
        self.check([[1, 2, 3, 4], [4], [2, 3]], [1], 1)
        self.check([[1, 2, 3, 4], [4], [2, 3]], [1, 2], 0)
        self.check([[1, 2, -1], [1, 2, 2, 3]], [1, 3], 1)
        self.check([[1, 2, 1], [1, 2, 1, 2], [2, 2, 1]], [1], 1)

    def test_one_letter_comes_out_and_lets_others_out(self):
        # 2 is made, so 1 is, so 3 is, and so on.
        rows = [[2, 2, 2], [2, 2], [1, 2, 2, 2, 2, 2], [3, 1, 2, -1], [4, 3, 1, 2, 3]]
        for row in ([1], [2], [3], [4], [4, 3, 2, 1, -4]):
            self.check(rows, row, 1)
        self.check(rows[1:], [2], 0)
        self.check(rows[1:], [4], 0)

    def test_words_that_are_not_made(self):
        self.check([[1]], [2], 0)
        self.check([[1, 2]], [2, 1], 0)
        self.check([[1, 2]], [1], 0)
        self.check([[1, 1], [2, 2]], [1, 2], 0)
        self.check([[1, 1], [2, 2]], [1, 2, 2, 1], 0)
        self.check([[1, 1], [2, 2]], [1, 1, 2, 2, -1, -1, -2, -2], 1)
        self.check([[1], [2]], [3], 0)
        self.check([[1], [2]], [1, 2, 3], 0)
        self.check([[1, 2, 3]], [1, 2], 0)

    def test_words_round_another(self):
        rows = [[1], [2, 1, -2]]
        self.check(rows, [2, 1, 1, -2], 1)
        self.check(rows, [2, -1, -2, 1, 2, 1, -2], 1)
        self.check(rows, [2], 0)
        self.check(rows, [2, 1], 0)
        self.check(rows, [-2, 1, 2], 0)
        self.check(rows, [2, 2, 1, -2, -2], 0)
        self.check(rows + [[2, 2]], [-2, 1, 2], 1)

    def test_only_the_words_of_m(self):
        rows = [[1], [2], [3], [1, 2], [2, 3]]
        asked = [made(m, i) for m in (1, 2, 3, 4, 9, 20) for i in range(5)]
        expected = [[1, 0, 0, 0, 0], [0, 1, 0, 0, 0], [1, 1, 0, 1, 0],
                    [0, 0, 1, 0, 0], [1, 1, 0, 1, 0], [0, 1, 1, 0, 1]]
        self.assertEqual(self.ask_after(3, rows, asked), [answer for row in expected for answer in row])

    def test_a_word_among_those_that_make_it(self):
        rows = [[1, 2, 1], [2, 2], [-1, 2]]
        self.assertEqual(self.ask_after(2, rows, [made(7, i) for i in range(8)]), [1] * 8)

    def test_two_short_words_and_all_that_they_make(self):
        words = words_up_to(2, 2)
        asked = words_up_to(2, 4)
        for first in words:
            for second in words:
                sides = [first, second, opposite_row(first), opposite_row(second)]
                # Words of at most 4 letters come from these two by words of at most 6.
                reached = {()}
                waiting = [()]
                while waiting:
                    now = waiting.pop()
                    for side in sides:
                        after = product(now, side)
                        if len(after) <= 6 and after not in reached:
                            reached.add(after)
                            waiting.append(after)
                calls = [begin()] + put([first, second])
                for row in asked:
                    calls += [word(2, row), made(3, 2)]
                expected = [1 if row in reached else 0 for row in asked]
                self.assertEqual(self.ask(calls)[4::2], expected, (first, second))
                self.assertEqual([1 if is_made((first, second), row) else 0 for row in asked], expected)


if __name__ == "__main__":
    unittest.main()
