"""Point 6."""

import unittest

from helper import CallCase, NO_SLOTS, begin, letters, root, turned, word
from reference import product, words_up_to


class Root(CallCase):
    def check(self, row, power, part):
        calls = [begin(), letters(4), word(6, row), word(1, [4]), root(6, 1)]
        self.assertEqual(self.last(calls), power, row)
        self.assert_words(calls, {6: row, 1: part})

    def test_of_nothing(self):
        self.check([], 0, [])
        self.assertEqual(self.ask([begin(), root(0, 0)]), [0, 0])

    def test_no_power(self):
        for row in ([1], [-3], [1, 2], [1, 2, -1], [1, 1, 2], [1, 2, -1, -2], [1, 2, 1], [1, -2, 1, 2],
                    [1] * 15 + [2], [1, 2, 1, 2, 1]):
            self.check(row, 1, row)

    def test_powers_of_one_letter(self):
        for power in range(1, 17):
            self.check([1] * power, power, [1])
            self.check([-4] * power, power, [-4])

    def test_powers_of_longer_words(self):
        for part in ([1, 2], [1, -2], [1, 1, 2], [1, 2, -1, -2], [1, 2, 3, 4, 1], [1, 2, 1, 2, 1, 3, 3, 3]):
            for power in range(1, 16 // len(part) + 1):
                self.check(part * power, power, part)

    def test_powers_of_words_whose_two_ends_are_opposites(self):
        for ends in ([1], [1, 2], [-3, 2, 2], [3, 1, 4, 1, 2]):
            for part in ([4], [4, 3], [4, 1, 4, 4], [4, 3, 4]):
                for power in range(1, (16 - 2 * len(ends)) // len(part) + 1):
                    self.check(ends + part * power + turned(ends), power, ends + part + turned(ends))

    def test_the_greatest_number(self):
        self.check([1, 2] * 8, 8, [1, 2])
        self.check([1, 2] * 6, 6, [1, 2])
        self.check([2] + [1] * 12 + [-2], 12, [2, 1, -2])

    def test_a_power_of_the_opposite_is_not_meant(self):
        self.check([-1, -1], 2, [-1])
        self.check([-2, -1, -2, -1], 2, [-2, -1])

    def test_k_the_same_as_i(self):
        calls = [begin(), word(2, [2, 1, 1, 1, -2]), root(2, 2)]
        self.assertEqual(self.ask(calls), [0, 5, 3])
        self.assert_words(calls, {2: [2, 1, -2]})

    def test_each_of_the_two_outside(self):
        before = [begin(), word(0, [1, 1]), word(7, [2])]
        for wrong in NO_SLOTS:
            for call in (root(wrong, 0), root(0, wrong), root(wrong, wrong)):
                self.assert_refused(before, call, -1, {0: [1, 1], 7: [2]}, 2)

    def test_every_word_of_two_letters_up_to_six(self):
        greatest = {}
        words = words_up_to(2, 6)
        for part in words[1:]:
            power = part
            for n in range(1, 7):
                if greatest.get(power, (0, ()))[0] < n:
                    greatest[power] = (n, part)
                power = product(power, part)
        for row in words[1:]:
            n, part = greatest[row]
            behind = [word(0, row), root(0, 1), word(2, turned(part)), [3, 1, 2, 2]]
            self.assertEqual(self.ask([begin()] + behind), [0, len(row), n, len(part), 0], row)


if __name__ == "__main__":
    unittest.main()
