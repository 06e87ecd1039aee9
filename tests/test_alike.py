"""Point 7."""

import unittest

from helper import CallCase, NO_SLOTS, alike, begin, letters, turned, word
from reference import opposite_row, product, words_up_to


class Alike(CallCase):
    def check(self, first, second, expected):
        calls = [begin(), letters(4), word(0, first), word(7, second), alike(0, 7), alike(7, 0)]
        self.assertEqual(self.ask(calls)[-2:], [expected, expected], (first, second))
        self.assert_words(calls, {0: first, 7: second})

    def test_nothing_beside_nothing(self):
        self.check([], [], 1)
        self.assertEqual(self.last([begin(), alike(3, 3)]), 1)

    def test_nothing_beside_a_word(self):
        for row in ([1], [1, 2, -1], [1, 2, -1, -2], [1] * 16):
            self.check([], row, 0)

    def test_the_same_word(self):
        for row in ([1], [1, 2, -1], [1, 2, 2, -3], [1] * 16):
            self.check(row, row, 1)
            self.assertEqual(self.last([begin(), letters(4), word(5, row), alike(5, 5)]), 1)

    def test_turned_round_its_end(self):
        for row in ([1, 2], [1, 1, 2], [1, 2, -1, -2], [1, 2, 3, 4, -3], [1, 2] * 7 + [3, 3]):
            for turn in range(len(row)):
                self.check(row, row[turn:] + row[:turn], 1)

    def test_another_word_before_and_its_opposite_behind(self):
        for ends in ([3], [3, -4], [3, 4, 4, 3, 4]):
            for row in ([1], [1, 2], [1, 2, -1, -2], [2, 2, 1]):
                around = ends + row + turned(ends)
                self.check(row, around, 1)
                self.check(row[1:] + row[:1], around, 1)

    def test_both_with_ends(self):
        self.check([3, 1, 2, -3], [4, 2, 1, -4], 1)
        self.check([3, 1, 2, -3], [4, 4, 1, -2, -4, -4], 0)

    def test_the_same_letters_in_another_order(self):
        self.check([1, 1, 2, 2], [1, 2, 1, 2], 0)
        self.check([1, 2, 3], [1, 3, 2], 0)
        self.check([1, 2, -1, -2], [2, 1, -2, -1], 0)
        self.check([1, 1, 2, 1, 2, 2], [1, 1, 2, 2, 1, 2], 0)

    def test_a_word_and_its_opposite(self):
        for row in ([1], [1, 2], [1, 2, -1, -2], [3, 1, -3]):
            self.check(row, turned(row), 0)

    def test_powers_are_not_alike(self):
        self.check([1], [1, 1], 0)
        self.check([1, 2], [1, 2, 1, 2], 0)
        self.check([1], [2], 0)

    def test_each_of_the_two_outside(self):
        before = [begin(), word(0, [1, 1]), word(7, [2])]
        for wrong in NO_SLOTS:
            for call in (alike(wrong, 0), alike(0, wrong), alike(wrong, wrong)):
                self.assert_refused(before, call, -1, {0: [1, 1], 7: [2]}, 2)

    def test_every_two_words_of_two_letters_up_to_four(self):
        words = words_up_to(2, 4)
        for first in words:
            # Words of at most 4 letters that are alike are so by a word of at most 4.
            reached = {product(product(around, first), opposite_row(around)) for around in words}
            calls = [begin(), word(0, first)]
            for second in words:
                calls += [word(1, second), alike(0, 1)]
            expected = [1 if second in reached else 0 for second in words]
            self.assertEqual(self.ask(calls)[3::2], expected, first)


if __name__ == "__main__":
    unittest.main()
