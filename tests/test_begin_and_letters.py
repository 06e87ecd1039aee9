"""Points 1 and 2."""

import unittest

from helper import CallCase, GREATEST, LEAST, begin, letters, opposite, root, times, word


class Begin(CallCase):
    def test_answers_0(self):
        self.assertEqual(self.ask([begin()]), [0])

    def test_two_letters_and_eight_words_of_nothing(self):
        self.assert_letters([begin()], 2)
        self.assert_words([begin()], {})

    def test_again_behind_any_calls(self):
        fillings = [word(i, [1, 2]) for i in range(8)]
        befores = [
            fillings,
            [letters(4), word(0, [4, -3]), word(7, [3])],
            [letters(1), word(3, [1, 1]), root(3, 4), opposite(4, 5), times(3, 4, 6)],
            [letters(9), word(8, [1]), begin()],
        ]
        for before in befores:
            calls = [begin()] + before + [begin()]
            self.assertEqual(self.last(calls), 0)
            self.assert_letters(calls, 2)
            self.assert_words(calls, {})

    def test_many_times(self):
        self.assertEqual(self.ask([begin()] * 5), [0] * 5)


class Letters(CallCase):
    def test_1_to_4(self):
        for r in (1, 2, 3, 4):
            calls = [begin(), letters(r)]
            self.assertEqual(self.ask(calls), [0, 0])
            self.assert_letters(calls, r)

    def test_each_word_is_nothing_from_then_on(self):
        filled = [begin()] + [word(i, [1, 2, -1]) for i in range(8)]
        for r in (1, 2, 3, 4):
            calls = filled + [letters(r)]
            self.assertEqual(self.last(calls), 0)
            self.assert_words(calls, {})
            self.assert_letters(calls, r)

    def test_up_and_down_again(self):
        calls = [begin(), letters(4), word(2, [4]), letters(1), letters(3)]
        self.assertEqual(self.ask(calls), [0, 0, 1, 0, 0])
        self.assert_letters(calls, 3)
        self.assert_words(calls, {})

    def test_outside_is_refused_and_changes_nothing(self):
        for now in (1, 2, 3, 4):
            filled = [begin(), letters(now), word(0, [now, 1]), word(7, [-1])]
            for r in (0, 5, -1, -4, 6, 257, LEAST, GREATEST):
                self.assert_refused(filled, letters(r), -1, {0: [now, 1], 7: [-1]}, now)


if __name__ == "__main__":
    unittest.main()
