"""The form of what is handed in and given back."""

import contextlib
import io
import unittest

from helper import CallCase, alike, begin, both, few, joined, kinds, letters, made, opposite, read, root, same, times
from helper import word
from undowords.moves import answers


class Interface(CallCase):
    def test_an_empty_list(self):
        self.assertEqual(answers([]), [])

    def test_each_call_how_many_numbers_then_these(self):
        self.assertEqual(answers([0]), [1, 0])
        self.assertEqual(answers([0, 1, 3]), [1, 0, 1, 0])
        self.assertEqual(answers([0, 2, 0, 3, 1, 1, 254]), [1, 0, 1, 3])
        self.assertEqual(answers([0, 2, 0, 0]), [1, 0, 1, 0])
        self.assertEqual(answers([0, 2, 0, 1, 1, 3, 0, 0, 1]), [1, 0, 1, 1, 1, 2])
        self.assertEqual(answers([0, 2, 0, 1, 1, 4, 0, 1]), [1, 0, 1, 1, 1, 1])
        self.assertEqual(answers([0, 2, 0, 2, 1, 1, 5, 0, 1]), [1, 0, 1, 2, 1, 2])
        self.assertEqual(answers([0, 6, 0, 1]), [1, 0, 1, 1])
        self.assertEqual(answers([0, 2, 1, 1, 1, 7, 2, 1]), [1, 0, 1, 1, 1, 1])
        self.assertEqual(answers([0, 2, 1, 1, 1, 7, 1, 1]), [1, 0, 1, 1, 1, 0])
        self.assertEqual(answers([0, 2, 1, 1, 1, 8, 2, 9, 2]), [1, 0, 1, 1, 1, 1, 1, 0])
        self.assertEqual(answers([0, 1, 1, 2, 1, 2, 1, 1, 9, 2]), [1, 0, 1, 0, 1, 2, 1, 2])
        self.assertEqual(answers([0, 2, 1, 1, 1, 10, 2, 3, 11, 2, 3]), [1, 0, 1, 1, 1, 1, 1, 1])
        self.assertEqual(answers([0, 2, 1, 1, 1, 10, 2, 4, 11, 2, 4]), [1, 0, 1, 1, 1, 0, 1, 0])

    def test_read_answers_its_letters_behind_how_many_there_are(self):
        calls = [0, 2, 1, 3, 1, 254, 1, 12, 1, 16, 12, 1, 2, 12, 1, 0, 12, 0, 16, 8, 2]
        self.assertEqual(answers(calls), [1, 0, 1, 3, 4, 3, 1, 254, 1, 3, 3, 1, 254, 1, 3, 1, 0, 1, 1])

    def test_a_refusal_is_its_number_alone(self):
        self.assertEqual(answers([0, 1, 5]), [1, 0, 1, -1])
        self.assertEqual(answers([0, 2, 8, 2, 1, 1]), [1, 0, 1, -1])
        self.assertEqual(answers([0, 3, 8, 0, 0, 4, 8, 0, 5, 8, 0, 6, 8, 0]), [1, 0] + [1, -1] * 4)
        self.assertEqual(answers([0, 2, 0, 9] + [1] * 9 + [3, 0, 0, 0]), [1, 0, 1, 9, 1, -2])
        self.assertEqual(answers([0, 7, 256, 0, 8, 256, 9, 256, 10, 256, 0, 11, 256, 0]), [1, 0] + [1, -1] * 5)
        self.assertEqual(answers([0, 2, 0, 1, 1, 12, 8, 16, 12, -1, 1]), [1, 0, 1, 1, 1, -1, 1, -1])

    def test_a_list_of_400_calls(self):
        calls = [begin()]
        for again in range(133):
            calls += [word(0, [1] * 16), times(0, 0, 1), opposite(0, 0)]
        self.assertEqual(len(calls), 400)
        self.assertEqual(self.ask(calls), [0] + [16, -2, 16] * 133)

    def test_a_list_of_400_longest_calls(self):
        calls = [begin()] + [word(7, [1, 2] * 8)] * 399
        self.assertEqual(self.ask(calls), [0] + [16] * 399)

    def test_what_is_handed_in_stays(self):
        calls = joined([begin(), letters(3), word(0, [1, -1, 3, 3]), root(0, 0), opposite(0, 1), times(0, 1, 2),
                        alike(0, 1), word(9, [1]), made(3, 2), few(7), kinds(7), same(1, 2), both(3, 6), read(0, 16)])
        before = list(calls)
        answers(calls)
        self.assertEqual(calls, before)

    def test_nothing_is_printed_or_read(self):
        shown = io.StringIO()
        with contextlib.redirect_stdout(shown), contextlib.redirect_stderr(shown):
            answers(joined([begin(), word(0, [1, 2]), few(1), both(1, 1), read(0, 16), word(8, [])]))
        self.assertEqual(shown.getvalue(), "")

    def test_nothing_is_kept_from_one_time_to_the_next(self):
        first = joined([begin(), word(0, [1, 2, 1, 2]), root(0, 1), alike(0, 1), word(2, [3]), few(3), both(1, 2),
                        kinds(255), read(1, 2)])
        other = joined([begin(), letters(4), word(0, [3]), word(1, [4, 4]), times(0, 1, 2), few(3), both(1, 2),
                        kinds(255), read(1, 2)])
        given = answers(first)
        self.assertEqual(given, [1, 0, 1, 4, 1, 2, 1, 0, 1, -1, 1, 1, 1, 1, 1, 0, 3, 2, 1, 2])
        for between in (other, [], other, first):
            answers(between)
            self.assertEqual(answers(first), given)

    def test_nothing_is_kept_where_no_begin_would_hide_it(self):
        without = joined([read(3, 16), few(255), times(0, 0, 1), word(0, [2]), word(1, [3]), alike(0, 2), kinds(1)])
        given = answers(without)
        answers(joined([begin(), letters(4), word(0, [3]), word(2, [4]), word(3, [1])]))
        self.assertEqual(answers(without), given)

    def test_an_answer_is_a_list_of_its_own(self):
        given = answers([0])
        given.append(7)
        self.assertEqual(answers([0]), [1, 0])

    def test_no_call_with_that_number(self):
        for number in (-1, 13, 2147483647):
            with self.assertRaises(ValueError):
                answers([0, number])


if __name__ == "__main__":
    unittest.main()
