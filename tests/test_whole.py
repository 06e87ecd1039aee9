"""Long lists of calls of all kinds."""

import random
import time
import unittest

from drawn import call_of, drawn_calls
from helper import CallCase, begin, both, few, joined, kinds, letters, made, put, read, same, times
from making import Makings
from undowords.moves import answers

ALL_CALLS = ["alike", "begin", "both", "few", "kinds", "letters", "made", "opposite", "read", "root", "same", "times",
             "word"]
# Far more than is needed, so that only what grows without measure is told.
SECONDS = 20

# What each of them is light for: words 0 to 3 and words 4 to 7, or all of them.
HEAVY = (
    (2, [[1] * place + [2] + [-1] * place for place in range(8)]),
    (2, [[1, 2] * 8, [2, 1] * 8, [1, -2] * 8, [2, -1] * 8, [1, 1, 2, 2] * 4, [2] * 16, [1] * 16, [1] * 15 + [2]]),
    (1, [[1] * 16] * 3 + [[1] * 15] + [[-1] * 14] * 4),
    (2, [[1] * 16, [2] * 15, [1, 2] * 8, [1] * 14 + [2, 2], [1] * 15, [2] * 16, [2, 1] * 8, [2] * 14 + [1, 1]]),
    # Many pairs of places are come to by one word, some 400.
    (2, [[-2, -1] + [-2] * 9, [2] + [1] * 15, [2] + [-1] * 8, [2] * 9,
         [1, 2], [-1] * 15, [1, 2, 1, 1] + [2] * 6 + [-1, -1], [-1, 2, 1, 1]]),
    (3, [[1, 2, 3, 1, 2, 3, 1, 2], [3] * 8, [1] * 8, [2] * 8,
         [1, 2] * 4, [3, 2] * 4, [1, 3, 3] * 2 + [1, 2], [2, 3] * 4]),
    (4, [[1, 2, 3, 4] * 2, [4, 3, 2, 1] * 2, [1, 1, 2, 2] * 2, [3, 3, 4, 4] * 2] * 2),
)


class Whole(CallCase):
    def test_drawn_calls_are_answered_as_by_the_reference(self):
        for seed in range(60):
            draw = random.Random(seed)
            calls = drawn_calls(draw, (1, 2, 2, 3, 4)[seed % 5], (2, 3, 4, 6, 8, 16)[seed % 6], 400)
            self.assertEqual(sorted({name for name, told in calls}), ALL_CALLS)
            reference = Makings()
            expected = [getattr(reference, name)(*told) for name, told in calls]
            expected = [answer if type(answer) is list else [answer] for answer in expected]
            given = self.ask_lists([call_of(name, told) for name, told in calls])
            for place, call in enumerate(calls):
                self.assertEqual(given[place], expected[place], f"seed {seed}, call {place}: {call}")

    def test_heavy_lists_in_good_time(self):
        for r, rows in HEAVY:
            before = [begin(), letters(r)] + put(rows)
            light = sum(len(row) for row in rows) <= 64
            asked = [same(15, 240), both(15, 240), both(240, 15), made(15, 7), kinds(240), few(15), read(0, 16)]
            if light:
                asked += [same(255, 255), both(255, 255), made(255, 7), kinds(255), few(255), both(255, 85)]
            calls = (before + asked * 80)[:400]
            self.assertEqual(len(calls), 400)
            start = time.process_time()
            given = self.ask_lists(calls)
            self.assertLess(time.process_time() - start, SECONDS, rows)
            self.assertNotIn([-1], given)
            behind = given[len(before):]
            self.assertEqual(behind, (behind[:len(asked)] * 80)[:len(behind)])

    def test_heavy_lists_are_answered_as_by_the_reference(self):
        for r, rows in HEAVY:
            reference = Makings()
            reference.letters(r)
            for i, row in enumerate(rows):
                reference.word(i, [letter % 256 for letter in row])
            asked = [(name, [m, n]) for name in ("same", "both") for m in (15, 3, 17) for n in (240, 15, 129)]
            asked += [("made", [m, i]) for m in (15, 240) for i in range(8)]
            asked += [(name, [m]) for name in ("few", "kinds") for m in (15, 240, 51, 255)]
            expected = [getattr(reference, name)(*told) for name, told in asked]
            self.assertEqual(self.ask_after(r, rows, [call_of(*call) for call in asked]), expected, rows)

    def test_the_same_list_again_with_others_between(self):
        lists = []
        for seed in range(100, 106):
            draw = random.Random(seed)
            lists.append(joined([call_of(*call) for call in drawn_calls(draw, 1 + seed % 4, 6, 400)]))
        lists += [[], [0], joined([begin(), times(0, 0, 0), read(0, 16), few(255)])]
        before = [list(calls) for calls in lists]
        given = [answers(calls) for calls in lists]
        for place in list(range(len(lists))) + list(reversed(range(len(lists)))):
            self.assertEqual(answers(lists[place]), given[place])
        self.assertEqual(lists, before)

    def test_calls_behind_another_begin(self):
        draw = random.Random(7)
        calls = [call_of(*call) for call in drawn_calls(draw, 2, 4, 200)]
        twice = self.ask_lists(calls + calls)
        self.assertEqual(twice[:200], twice[200:])


if __name__ == "__main__":
    unittest.main()
