"""What words make, by ways that fold no graph.

One changes the words until none can be made smaller, the other has letters move points.
"""

import functools

from reference import Reference, opposite_row, product


def weight(row):
    """The order in which a row is made smaller: by its length, then by its two halves."""
    half = (len(row) + 1) // 2
    return len(row), sorted([row[:half], opposite_row(row)[:half]])


def lighter(row, other):
    """The product of two rows or their opposites that may stand in the first one's place and is smaller."""
    for side in (other, opposite_row(other)):
        for changed in (product(row, side), product(side, row)):
            if weight(changed) < weight(row):
                return changed
    return None


@functools.lru_cache(maxsize=None)
def basis(rows):
    """Rows that make the same, none of them made by the others, and none can be made smaller by another."""
    kept = [row for row in rows if row]
    place = 0
    while place < len(kept):
        changes = (lighter(kept[place], kept[other]) for other in range(len(kept)) if other != place)
        changed = next((row for row in changes if row is not None), None)
        if changed is None:
            place += 1
        else:
            kept[place] = changed
            kept = [row for row in kept if row]
            place = 0
    return tuple(kept)


@functools.lru_cache(maxsize=None)
def is_made(rows, row):
    """By a basis, a row is made if it comes to nothing by products in front that never lengthen it."""
    parts = basis(rows)
    sides = parts + tuple(opposite_row(part) for part in parts)
    seen = {row}
    waiting = [row]
    while waiting:
        now = waiting.pop()
        if now == ():
            return True
        for side in sides:
            after = product(side, now)
            if len(after) <= len(now) and after not in seen:
                seen.add(after)
                waiting.append(after)
    return False


def are_one_kind(rows, first, second):
    return is_made(rows, product(opposite_row(first), second))


# Eight words make no more kinds than this, if there's an end of them: 16 powers of the one
# letter, and for r letters above 1 there are (words needed - 1) // (r - 1) kinds.
MOST_KINDS = 16


def count_of_kinds(rows, r):
    """Goes through the words from nothing on, a letter in front at a time, as far as the kinds are new."""
    found = [()]
    for row in found:
        for sign in list(range(1, r + 1)) + list(range(-r, 0)):
            longer = product((sign,), row)
            if not any(are_one_kind(rows, known, longer) for known in found):
                found.append(longer)
        if len(found) > MOST_KINDS:
            return 0
    return len(found)


def ends(rows):
    """The beginnings of a basis, one of each that differ by what is made, and the steps between them."""
    parts = basis(rows)
    found = [()]

    def place_of(beginning):
        for place, known in enumerate(found):
            if is_made(rows, product(beginning, opposite_row(known))):
                return place
        found.append(beginning)
        return len(found) - 1

    steps = {}
    for part in parts:
        for length, sign in enumerate(part):
            start = place_of(part[:length])
            end = place_of(part[:length + 1])
            steps[start, sign] = end
            steps[end, -sign] = start
    return steps


def made_by_both(rows, others):
    """Rows that make just what both make: one for each step that comes back to two known beginnings."""
    first, second = ends(rows), ends(others)
    ways = {(0, 0): ()}
    shared = []
    waiting = [(0, 0)]
    while waiting:
        pair = waiting.pop()
        for start, sign in first:
            if start == pair[0] and (pair[1], sign) in second:
                end = first[start, sign], second[pair[1], sign]
                if end in ways:
                    shared.append(product(product(ways[pair], (sign,)), opposite_row(ways[end])))
                else:
                    ways[end] = ways[pair] + (sign,)
                    waiting.append(end)
    for row in shared:
        assert is_made(rows, row) and is_made(others, row)
    return tuple(shared)


def turn_back(images):
    return tuple(images.index(point) for point in range(len(images)))


def all_moves(moves):
    """moves: for each of the letters 1 to r, to which point it moves each point."""
    letters = {letter: images for letter, images in enumerate(moves, start=1)}
    return {**letters, **{-letter: turn_back(images) for letter, images in letters.items()}}


def rows_to_points(moves):
    """For each point that is come to from point 0, the shortest row that moves 0 there."""
    images = all_moves(moves)
    rows = {0: ()}
    order = [0]
    for point in order:
        for sign in images:
            end = images[sign][point]
            if end not in rows:
                rows[end] = rows[point] + (sign,)
                order.append(end)
    return rows


def rows_that_stay(moves):
    """Rows that make just the words that leave point 0 where it is; as many kinds as points."""
    rows = rows_to_points(moves)
    staying = []
    for letter, images in enumerate(moves, start=1):
        for point in rows:
            row = product(product(rows[point], (letter,)), opposite_row(rows[images[point]]))
            if row:
                staying.append(row)
    return staying


def moved_together(moves, others):
    """The moves of the pairs of points, written as one number a pair."""
    size = len(others[0])
    return [tuple(images[pair // size] * size + other[pair % size] for pair in range(len(images) * size))
            for images, other in zip(moves, others)]


class Makings(Reference):
    """What each of the calls from made on answers, too; read answers a list."""

    def words_of(self, m):
        """The words of m, or None if m is outside or they aren't light."""
        if m not in range(256):
            return None
        rows = tuple(self.rows[i] for i in range(8) if m // 2 ** i % 2 == 1)
        return rows if len(sum(rows, ())) <= 64 else None

    def made(self, m, i):
        rows = self.words_of(m)
        if rows is None or i not in self.rows:
            return -1
        return 1 if is_made(rows, self.rows[i]) else 0

    def few(self, m):
        rows = self.words_of(m)
        return -1 if rows is None else len(basis(rows))

    def kinds(self, m):
        rows = self.words_of(m)
        return -1 if rows is None else count_of_kinds(rows, self.r)

    def same(self, m, n):
        rows, others = self.words_of(m), self.words_of(n)
        if rows is None or others is None:
            return -1
        return 1 if all(is_made(rows, row) for row in others) and all(is_made(others, row) for row in rows) else 0

    def both(self, m, n):
        rows, others = self.words_of(m), self.words_of(n)
        if rows is None or others is None:
            return -1
        return len(basis(made_by_both(rows, others)))

    def read(self, i, most):
        if i not in self.rows:
            return [-1]
        shown = [letter % 256 for letter in self.rows[i]]
        return [len(shown)] + (shown[:most] if most in range(1, 17) else [])
