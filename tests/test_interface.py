"""The form of what is handed in and given back."""

import random
import unittest

import helper
from helper import CallCase, alike, begin, joined, letters, opposite, raw_word, root, times, word
from reference import Reference
from undowords.moves import answers


def drawn_call(draw):
    """A call's name and what it's told: mostly within the ranges, at times outside."""
    slots = [draw.choice([0, 1, 2, 3, 4, 5, 6, 7] * 6 + [-1, 8, 2147483647, -2147483648]) for place in range(3)]
    name = draw.choice(["word"] * 6 + ["times"] * 6 + ["opposite", "root", "alike", "alike"] * 2)
    if draw.randrange(60) == 0:
        name = draw.choice(["begin", "letters"])
    if name == "begin":
        return name, []
    if name == "letters":
        return name, [draw.choice([1, 2, 3, 4, 0, 5])]
    if name == "word":
        row = [draw.choice([1, 1, 2, 255, 255, 254]) for place in range(draw.randrange(17))]
        if row and draw.randrange(8) == 0:
            row[-1] = draw.choice([0, 3, 4, 5, 128, 251, 252, 253])
        return name, [slots[0], row]
    return name, slots if name == "times" else slots[:2]


def call_of(name, told):
    return raw_word(*told) if name == "word" else getattr(helper, name)(*told)


class Interface(CallCase):
    def test_an_empty_list(self):
        self.assertEqual(answers([]), [])

    def test_each_call_how_many_numbers_then_these(self):
        self.assertEqual(answers([0]), [1, 0])
        self.assertEqual(answers([0, 1, 3]), [1, 0, 1, 0])
        self.assertEqual(answers([0, 2, 0, 3, 1, 1, 254]), [1, 0, 1, 3])
        self.assertEqual(answers([0, 2, 0, 0]), [1, 0, 1, 0])
        self.assertEqual(answers([0, 2, 0, 1, 1, 3, 0, 0, 1]), [1, 0, 1, 1, 1, 2])
        self.assertEqual(answers([0, 2, 0, 1, 1, 4, 0, 1]), [1, 0, 1, 1, 1, 1])
        self.assertEqual(answers([0, 2, 0, 2, 1, 1, 5, 0, 1]), [1, 0, 1, 2, 1, 2])
        self.assertEqual(answers([0, 6, 0, 1]), [1, 0, 1, 1])

    def test_a_refusal_is_its_number_alone(self):
        self.assertEqual(answers([0, 1, 5]), [1, 0, 1, -1])
        self.assertEqual(answers([0, 2, 8, 2, 1, 1]), [1, 0, 1, -1])
        self.assertEqual(answers([0, 3, 8, 0, 0, 4, 8, 0, 5, 8, 0, 6, 8, 0]), [1, 0] + [1, -1] * 4)
        self.assertEqual(answers([0, 2, 0, 9] + [1] * 9 + [3, 0, 0, 0]), [1, 0, 1, 9, 1, -2])

    def test_a_list_of_400_calls(self):
        calls = [begin()]
        for again in range(133):
            calls += [word(0, [1] * 16), times(0, 0, 1), opposite(0, 0)]
        self.assertEqual(len(calls), 400)
        self.assertEqual(self.ask(calls), [0] + [16, -2, 16] * 133)

    def test_a_list_of_400_longest_calls(self):
        calls = [begin()] + [word(7, [1, 2] * 8)] * 399
        self.assertEqual(self.ask(calls), [0] + [16] * 399)

    def test_what_is_handed_in_stays(self):
        calls = joined([begin(), letters(3), word(0, [1, -1, 3, 3]), root(0, 0), opposite(0, 1), times(0, 1, 2),
                        alike(0, 1), word(9, [1])])
        before = list(calls)
        answers(calls)
        self.assertEqual(calls, before)

    def test_nothing_is_kept_from_one_time_to_the_next(self):
        first = joined([begin(), word(0, [1, 2, 1, 2]), root(0, 1), alike(0, 1), word(2, [3])])
        other = joined([begin(), letters(4), word(0, [3]), word(1, [4, 4]), times(0, 1, 2)])
        given = answers(first)
        self.assertEqual(given, [1, 0, 1, 4, 1, 2, 1, 0, 1, -1])
        for between in (other, [], other, first):
            answers(between)
            self.assertEqual(answers(first), given)

    def test_nothing_is_kept_where_no_begin_would_hide_it(self):
        without = joined([times(0, 0, 1), word(0, [2]), word(1, [3]), alike(0, 2)])
        given = answers(without)
        answers(joined([begin(), letters(4), word(0, [3]), word(2, [4])]))
        self.assertEqual(answers(without), given)

    def test_an_answer_is_a_list_of_its_own(self):
        given = answers([0])
        given.append(7)
        self.assertEqual(answers([0]), [1, 0])

    def test_no_call_with_that_number(self):
        for number in (-1, 13, 2147483647):
            with self.assertRaises(ValueError):
                answers([0, number])

    def test_drawn_calls_are_answered_as_by_the_reference(self):
        for seed in range(30):
            draw = random.Random(seed)
            drawn = [("begin", []), ("letters", [1 + seed % 4])] + [drawn_call(draw) for place in range(398)]
            reference = Reference()
            expected = [getattr(reference, name)(*told) for name, told in drawn]
            given = self.ask([call_of(name, told) for name, told in drawn])
            self.assertEqual(given, expected, f"seed {seed}")


if __name__ == "__main__":
    unittest.main()
