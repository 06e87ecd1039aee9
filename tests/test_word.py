"""Point 3."""

import unittest

from helper import CallCase, NO_SLOTS, begin, letters, raw_word, word


class Word(CallCase):
    def test_reduced_rows_stay(self):
        for row in ([1], [-2], [1, 1], [1, 2, -1, -2], [2, 1, 2, 1, -2]):
            calls = [begin(), word(0, row)]
            self.assertEqual(self.ask(calls), [0, len(row)])
            self.assert_words(calls, {0: row})

    def test_reduced_in_one_place(self):
        for row, left in (([1, -1], []), ([-1, 1], []), ([2, 1, -1, 2], [2, 2]), ([1, 2, -2], [1]), ([-1, 1, 2], [2])):
            calls = [begin(), word(3, row)]
            self.assertEqual(self.last(calls), len(left))
            self.assert_words(calls, {3: left})

    def test_reduced_in_many_places(self):
        cases = (
            ([1, -1, 2, 2, -2, 1, -1], [2]),
            ([1, 2, -2, -1, 2, 1, -1, 1], [2, 1]),
            ([2, 1, 2, -2, -1, 1], [2, 1]),
            ([1, -1, 1, -1, 1], [1]),
        )
        for row, left in cases:
            calls = [begin(), word(0, row)]
            self.assertEqual(self.last(calls), len(left))
            self.assert_words(calls, {0: left})

    def test_reduced_wholly(self):
        for row in ([1, 2, -2, -1], [1, -1] * 8, [1] * 8 + [-1] * 8, [1, 2, -1, -2, 2, 1, -2, -1]):
            calls = [begin(), word(5, [1]), word(5, row)]
            self.assertEqual(self.last(calls), 0)
            self.assert_words(calls, {})

    def test_no_letters_at_all(self):
        calls = [begin(), word(1, [2, 2]), word(1, [])]
        self.assertEqual(self.ask(calls), [0, 2, 0])
        self.assert_words(calls, {})

    def test_16_letters(self):
        for row in ([1] * 16, [1, 2] * 8, [-2] * 16, [1, 2, -1, -2] * 4):
            calls = [begin(), word(7, row)]
            self.assertEqual(self.last(calls), 16)
            self.assert_words(calls, {7: row})

    def test_17_letters_are_refused_though_they_are_less_reduced(self):
        for row in ([1] * 17, [1, -1] * 8 + [1]):
            self.assert_refused([begin(), word(0, [2])], word(0, row), -1, {0: [2]}, 2)

    def test_letters_below_0_as_256_more(self):
        calls = [begin(), letters(4), raw_word(0, [255, 254, 253, 252, 1])]
        self.assertEqual(self.last(calls), 5)
        self.assert_words(calls, {0: [-1, -2, -3, -4, 1]})
        self.assertEqual(self.last([begin(), raw_word(0, [1, 255, 254, 2])]), 0)

    def test_only_word_i_changes(self):
        calls = [begin()] + [word(i, [1] * (i + 1)) for i in range(8)] + [word(4, [2])]
        expected = {i: [1] * (i + 1) for i in range(8)}
        expected[4] = [2]
        self.assert_words(calls, expected)

    def test_i_outside_is_refused(self):
        for i in NO_SLOTS:
            for row in ([], [1], [1, 2]):
                self.assert_refused([begin(), word(0, [2]), word(7, [1])], word(i, row), -1, {0: [2], 7: [1]}, 2)

    def test_letters_outside_are_refused(self):
        for r in (1, 2, 3, 4):
            before = [begin(), letters(r), word(0, [r]), word(1, [1, 1])]
            for number in (0, r + 1, 256 - r - 1, 5, 127, 128, 129, 251):
                for row in ([number], [1, number], [number, 1], [1, 1, number, 255, 255]):
                    self.assert_refused(before, raw_word(1, row), -1, {0: [r], 1: [1, 1]}, r)

    def test_wrong_letters_are_refused_though_they_would_go_out(self):
        self.assert_refused([begin(), word(0, [2])], word(0, [3, -3]), -1, {0: [2]}, 2)

    def test_the_call_behind_a_refusal_is_read_in_its_place(self):
        calls = [begin(), word(8, [1, 2, 1]), word(0, [1]), word(-1, [0, 0]), word(0, [0, 0, 0]), word(0, [2, 2])]
        self.assertEqual(self.ask(calls), [0, -1, 1, -1, -1, 2])


if __name__ == "__main__":
    unittest.main()
