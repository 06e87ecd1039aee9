"""What points 8 to 13 have in common: the ranges, how many letters together are light, and that nothing changes."""

import unittest

from helper import CallCase, GREATEST, LEAST, NO_SETS, NO_SLOTS, begin, both, few, kinds, letters, made, put, read
from helper import same, word

# Words 0 to 3 have 64 letters together, so do words 4 to 7 but for the last letter.
LONG = [[1] * 16, [2] * 16, [1, 2] * 8, [2, 1] * 8, [-1] * 16, [1] + [2] * 15, [2] + [1] * 15, [1, -2] * 7 + [1]]
# 64 letters and 65.
LIGHT = [[1] * 16, [2] * 16, [1, 2] * 8, [2, 1] * 8, [1], [], [1, 1], []]


class Light(CallCase):
    def test_64_letters_together_are_answered(self):
        calls = [made(15, 0), made(15, 3), made(15, 7), few(15), kinds(15), same(15, 15), both(15, 15)]
        self.assertEqual(self.ask_after(2, LIGHT, calls), [1, 1, 1, 4, 0, 1, 4])

    def test_65_letters_together_are_not(self):
        calls = [made(31, 0), made(31, 7), few(31), kinds(31)]
        self.assertEqual(self.ask_after(2, LIGHT, calls), [-1] * 4)
        calls = [same(31, 1), same(1, 31), same(31, 31), both(31, 1), both(1, 31), both(31, 31)]
        self.assertEqual(self.ask_after(2, LIGHT, calls), [-1] * 6)
        calls = [same(31, 0), same(0, 31), both(31, 0), both(0, 31), same(31, 15), both(15, 31)]
        self.assertEqual(self.ask_after(2, LIGHT, calls), [-1] * 6)

    def test_64_letters_by_eight_words(self):
        rows = [[1] * place + [2] + [-1] * place for place in range(8)]
        self.assertEqual(sum(len(row) for row in rows), 64)
        calls = [made(255, 7), few(255), kinds(255), same(255, 255), both(255, 255)]
        self.assertEqual(self.ask_after(2, rows, calls), [1, 8, 0, 1, 8])
        rows[0] = [2, 2]
        self.assertEqual(self.ask_after(2, rows, calls), [-1] * 5)
        self.assertEqual(self.ask_after(2, rows, [few(254)]), [7])

    def test_each_word_weighs(self):
        for place in range(8):
            rows = [[1, 2] * 4 for other in range(8)]
            self.assertEqual(self.ask_after(2, rows, [few(255), made(255, 0)]), [1, 1])
            rows[place] = [1, 2] * 4 + [1]
            calls = [made(255, 0), few(255), kinds(255), same(255, 0), same(0, 255), both(255, 0), both(0, 255)]
            self.assertEqual(self.ask_after(2, rows, calls), [-1] * 7)
            calls = [few(255 - (1 << place)), made(255 - (1 << place), place)]
            self.assertEqual(self.ask_after(2, rows, calls), [1, 0])

    def test_the_two_sides_weigh_apart(self):
        rows = [[1] * 16, [2] * 16, [1, 2] * 8, [2, 1] * 8, [1] * 16, [2] * 16, [1, 2] * 8, [-1, -2] * 8]
        self.assertEqual(self.ask_after(2, rows, [same(15, 240), both(15, 240)]), [1, 4])
        self.assertEqual(self.ask_after(2, rows, [same(31, 240), both(31, 240)]), [-1, -1])
        self.assertEqual(self.ask_after(2, rows, [same(15, 248), both(15, 248)]), [-1, -1])

    def test_the_word_asked_for_does_not_weigh(self):
        self.assertEqual(self.ask_after(2, LONG, [made(15, 4), made(15, 5)]), [1, 0])

    def test_what_is_taken_out_does_not_weigh(self):
        rows = LIGHT[:4] + [[1, -1] * 8, [1, 2, -2, -1]]
        calls = [made(255, 0), few(255), kinds(255), same(15, 255), both(255, 15)]
        self.assertEqual(self.ask_after(2, rows, calls), [1, 4, 0, 1, 4])

    def test_eight_words_of_16_letters(self):
        rows = [[1] * 16] * 8
        calls = [made(255, 0), few(255), kinds(255), same(255, 255), both(255, 255), same(255, 1), both(1, 255)]
        self.assertEqual(self.ask_after(1, rows, calls), [-1] * 7)
        calls = [made(15, 7), few(240), kinds(15), same(15, 240), both(15, 240)]
        self.assertEqual(self.ask_after(1, rows, calls), [1, 1, 16, 1, 1])

    def test_m_of_0_is_light_whatever_the_words(self):
        calls = [made(0, 0), few(0), kinds(0), same(0, 0), both(0, 0), same(0, 1), both(1, 0)]
        self.assertEqual(self.ask_after(2, LONG, calls), [0, 0, 0, 1, 0, 0, 0])


class Ranges(CallCase):
    rows = [[1], [2], [1, 2], [], [2, 2], [1, 1], [], [2, 1, -2]]

    def test_the_ends_of_m(self):
        calls = [made(0, 0), made(255, 0), few(0), few(255), kinds(0), kinds(255)]
        self.assertEqual(self.ask_after(2, self.rows, calls), [0, 1, 0, 2, 0, 1])
        calls = [same(0, 0), same(0, 255), same(255, 0), same(255, 255)]
        self.assertEqual(self.ask_after(2, self.rows, calls), [1, 0, 0, 1])
        calls = [both(0, 0), both(0, 255), both(255, 0), both(255, 255)]
        self.assertEqual(self.ask_after(2, self.rows, calls), [0, 0, 0, 2])

    def test_each_bit_is_its_word(self):
        for i in range(8):
            asked = [made(1 << i, j) for j in range(8)] + [few(1 << i)]
            rows = [[letter] for letter in (1, 2, 3, 4)] + [[1, 2], [2, 3], [3, 4], [4, 1]]
            self.assertEqual(self.ask_after(4, rows, asked), [1 if i == j else 0 for j in range(8)] + [1])

    def test_m_outside(self):
        for m in NO_SETS + (257, 1 << 20, -256, -255):
            calls = [made(m, 0), made(m, 3), few(m), kinds(m), same(m, 0), same(0, m), same(m, m), both(m, 0),
                     both(0, m), both(m, m)]
            self.assertEqual(self.ask_after(2, self.rows, calls), [-1] * 10, m)

    def test_i_outside(self):
        for i in NO_SLOTS:
            calls = [made(0, i), made(1, i), made(255, i), read(i, 0), read(i, 1), read(i, 16), read(i, 17)]
            self.assertEqual(self.ask_after(2, self.rows, calls), [-1] * 7, i)
            self.assertEqual(self.ask_after(2, self.rows, [made(256, i), made(-1, i)]), [-1, -1])

    def test_the_ends_of_i(self):
        calls = [made(255, 0), made(255, 7), made(2, 7), made(2, 1)]
        self.assertEqual(self.ask_after(2, self.rows, calls), [1, 1, 0, 1])

    def test_none_of_them_changes_anything(self):
        rows = [[1], [2, 2], [1, 2] * 8, [2, 1] * 8, [-1] * 16, [], [3, 3, 3], [1, -3, 2]]
        before = [begin(), letters(3)] + put(rows)
        for m in (0, 1, 3, 67, 255, -1, 256, LEAST, GREATEST):
            for n in (0, 2, 7, 24, 255, -1, 256, LEAST, GREATEST):
                asked = [made(m, n), few(m), kinds(n), same(m, n), both(m, n), read(n, m), read(m, n)]
                after = before + asked + [read(i, 16) for i in range(8)] + [word(0, [3]), word(0, [-3]), word(0, [4])]
                given = self.ask_lists(after)[-11:]
                told = [[len(row)] + [letter % 256 for letter in row] for row in rows]
                self.assertEqual(given, told + [[1], [1], [-1]], (m, n))

    def test_none_of_them_changes_a_word_seen_without_read(self):
        rows = {0: [1, 2], 3: [2, 2, 2], 7: [1, -2, 1]}
        before = [begin()] + [word(i, row) for i, row in rows.items()]
        asked = [made(137, 0), made(129, 3), few(137), few(1), kinds(137), kinds(8), same(1, 8), same(137, 129),
                 both(137, 9), both(1, 8)]
        given = self.ask(before + asked)[len(before):]
        self.assertEqual(given, [1, 0, 3, 1, 0, 0, 0, 0, 2, 0])
        self.assert_words(before + asked, rows)
        self.assert_letters(before + asked, 2)


if __name__ == "__main__":
    unittest.main()
