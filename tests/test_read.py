"""Point 13."""

import unittest

from helper import CallCase, GREATEST, LEAST, NO_SLOTS, begin, letters, put, raw_word, read, root, times, word


class Read(CallCase):
    def reading(self, row, most, i=0):
        return self.ask_lists([begin(), letters(4), word(i, row), read(i, most)])[-1]

    def test_as_many_as_asked_for_and_no_more_than_there_are(self):
        row = [1, 2, 3, 4, 1, 1]
        for most in range(1, 17):
            self.assertEqual(self.reading(row, most), [6] + row[:most], most)

    def test_every_length_with_every_most(self):
        for length in range(17):
            row = ([1, 2, 3, 4] * 4)[:length]
            for most in range(1, 17):
                self.assertEqual(self.reading(row, most), [length] + row[:most], (length, most))

    def test_none_of_most_outside_1_to_16(self):
        for row in ([], [1], [1, 2, -1], [1] * 16):
            for most in (0, -1, -2, -16, 17, 18, 255, LEAST, GREATEST):
                self.assertEqual(self.reading(row, most), [len(row)], (row, most))

    def test_opposites_as_256_more(self):
        self.assertEqual(self.reading([-1, -2, -3, -4], 4), [4, 255, 254, 253, 252])
        self.assertEqual(self.reading([1, -2, 3, -4, -4], 3), [5, 1, 254, 3])
        self.assertEqual(self.reading([-1] * 16, 16), [16] + [255] * 16)

    def test_nothing(self):
        for most in (-1, 0, 1, 16, 17):
            self.assertEqual(self.reading([], most), [0])
            self.assertEqual(self.reading([1, -1], most), [0])

    def test_reduced(self):
        self.assertEqual(self.reading([1, 2, -2, 3], 16), [2, 1, 3])

    def test_each_of_the_words(self):
        rows = [[place % 4 + 1] * (place + 1) for place in range(8)]
        calls = [begin(), letters(4)] + put(rows) + [read(i, 16) for i in range(8)]
        self.assertEqual(self.ask_lists(calls)[10:], [[len(row)] + row for row in rows])

    def test_what_other_calls_have_put_there(self):
        calls = [begin(), word(0, [1, 2] * 3), root(0, 1), times(0, 1, 2), [4, 2, 3]]
        given = self.ask_lists(calls + [read(i, 16) for i in range(4)])[-4:]
        self.assertEqual(given, [[6] + [1, 2] * 3, [2, 1, 2], [8] + [1, 2] * 4, [8] + [254, 255] * 4])

    def test_a_word_that_was_refused_is_not_there(self):
        calls = [begin(), raw_word(0, [1, 255, 2]), raw_word(0, [1, 3]), read(0, 16), [1, 5], read(0, 16), [1, 3],
                 read(0, 16)]
        self.assertEqual(self.ask_lists(calls)[1:], [[1], [-1], [1, 2], [-1], [1, 2], [0], [0]])

    def test_i_outside(self):
        for i in NO_SLOTS:
            for most in (-1, 0, 1, 16, 17, LEAST, GREATEST):
                self.assertEqual(self.ask_lists([begin(), word(7, [1]), read(i, most)]), [[0], [1], [-1]])

    def test_most_may_be_another_each_time(self):
        calls = [begin(), word(7, [1, 2, 1]), read(7, 2), read(7, 0), read(7, 3), read(7, 1)]
        self.assertEqual(self.ask_lists(calls)[2:], [[3, 1, 2], [3], [3, 1, 2, 1], [3, 1]])


if __name__ == "__main__":
    unittest.main()
