"""The calls as lists of numbers, and what tests ask of their answers."""

import unittest

from undowords.moves import answers

LEAST = -2147483648
GREATEST = 2147483647
NO_SLOTS = (-1, 8, LEAST, GREATEST)
# No number m or n of words.
NO_SETS = (-1, 256, LEAST, GREATEST)


def begin():
    return [0]


def letters(r):
    return [1, r]


def word(i, row):
    """row: letters as they are, opposites below 0."""
    return raw_word(i, [letter % 256 for letter in row])


def raw_word(i, numbers):
    return [2, i, len(numbers)] + list(numbers)


def times(i, j, k):
    return [3, i, j, k]


def opposite(i, k):
    return [4, i, k]


def root(i, k):
    return [5, i, k]


def alike(i, j):
    return [6, i, j]


def made(m, i):
    return [7, m, i]


def few(m):
    return [8, m]


def kinds(m):
    return [9, m]


def same(m, n):
    return [10, m, n]


def both(m, n):
    return [11, m, n]


def read(i, most):
    return [12, i, most]


def put(rows, start=0):
    """Word start is the first of the rows, the next ones are behind it."""
    return [word(start + place, row) for place, row in enumerate(rows)]


def turned(row):
    return [-letter for letter in reversed(row)]


def joined(calls):
    return [number for call in calls for number in call]


class CallCase(unittest.TestCase):
    def ask_lists(self, calls):
        """The numbers that each of the calls answers."""
        given = answers(joined(calls))
        self.assertIs(type(given), list)
        for number in given:
            self.assertIs(type(number), int)
        lists = []
        while given:
            count = given[0]
            self.assertTrue(1 <= count < len(given), "a call answers at least one number")
            lists.append(given[1:count + 1])
            given = given[count + 1:]
        self.assertEqual(len(lists), len(calls))
        return lists

    def ask(self, calls):
        """The one number that each of the calls answers."""
        lists = self.ask_lists(calls)
        self.assertEqual([len(answer) for answer in lists], [1] * len(calls))
        return [answer[0] for answer in lists]

    def last(self, calls):
        return self.ask(calls)[-1]

    def ask_after(self, r, rows, questions):
        """What each of the questions answers where there are r letters and the words are the rows."""
        before = [begin(), letters(r)] + put(rows)
        for row in rows:
            self.assertLessEqual(len(row), 16)
        return self.ask(before + list(questions))[len(before):]

    def assert_words(self, calls, expected):
        """Behind the calls the words are those of the dict expected, all others nothing."""
        for i in range(8):
            spare = (i + 1) % 8
            row = expected.get(i, [])
            behind = [word(spare, turned(row)), times(i, spare, spare)]
            given = self.ask(list(calls) + behind)
            self.assertEqual(given[-2:], [len(row), 0], f"word {i} is not {row}")

    def assert_letters(self, calls, r):
        """Behind the calls there are r letters: r and -r are taken, those beyond are not."""
        tried = [word(0, [r]), word(0, [-r]), word(0, [r + 1]), word(0, [-r - 1])]
        self.assertEqual(self.ask(list(calls) + tried)[-4:], [1, 1, -1, -1])

    def assert_refused(self, calls, refused, number, expected, r):
        """The call is refused with the number, the words and letters stay."""
        self.assertEqual(self.last(list(calls) + [refused]), number, refused)
        self.assert_words(list(calls) + [refused], expected)
        self.assert_letters(list(calls) + [refused], r)
