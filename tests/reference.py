"""Another way to the same answers, slow and plain, to hold the program against."""


def product(first, second):
    row = list(first) + list(second)
    place = 0
    while place + 1 < len(row):
        if row[place] + row[place + 1] == 0:
            row = row[:place] + row[place + 2:]
            place = 0
        else:
            place += 1
    return tuple(row)


def opposite_row(row):
    return tuple(-letter for letter in row[::-1])


def power(row, n):
    made = ()
    for again in range(n):
        made = product(made, row)
    return made


def words_up_to(r, length):
    """All reduced words of at most that many letters, the shortest first."""
    signs = list(range(1, r + 1)) + list(range(-r, 0))
    found = [()]
    newest = [()]
    for size in range(length):
        newest = [row + (sign,) for row in newest for sign in signs if not row or row[-1] != -sign]
        found += newest
    return found


def root(row):
    """Tries every front and every back of the row put together, the greatest power first."""
    if not row:
        return 0, ()
    for n in range(len(row), 0, -1):
        for front in range(len(row) + 1):
            for back in range(len(row) - front + 1):
                part = row[:front] + row[len(row) - back:]
                if power(part, n) == row:
                    return n, part


def shorter(row, r):
    for sign in list(range(-r, 0)) + list(range(1, r + 1)):
        around = product(product((sign,), row), (-sign,))
        if len(around) < len(row):
            return around
    return None


def shortest_alike(row, r):
    """All the shortest rows that are alike to this one."""
    while shorter(row, r) is not None:
        row = shorter(row, r)
    found = {row}
    waiting = [row]
    while waiting:
        now = waiting.pop()
        for sign in list(range(-r, 0)) + list(range(1, r + 1)):
            around = product(product((sign,), now), (-sign,))
            if len(around) == len(row) and around not in found:
                found.add(around)
                waiting.append(around)
    return found


class Reference:
    """What each call answers, one object a list of calls."""

    def __init__(self):
        self.begin()

    def begin(self):
        return self.letters(2)

    def letters(self, r):
        if r not in (1, 2, 3, 4):
            return -1
        self.r = r
        self.rows = {i: () for i in range(8)}
        return 0

    def word(self, i, numbers):
        signs = {number % 256: number for number in range(-self.r, self.r + 1) if number != 0}
        if i not in self.rows or len(numbers) > 16 or any(number not in signs for number in numbers):
            return -1
        self.rows[i] = product((), [signs[number] for number in numbers])
        return len(self.rows[i])

    def times(self, i, j, k):
        if any(slot not in self.rows for slot in (i, j, k)):
            return -1
        made = product(self.rows[i], self.rows[j])
        if len(made) > 16:
            return -2
        self.rows[k] = made
        return len(made)

    def opposite(self, i, k):
        if i not in self.rows or k not in self.rows:
            return -1
        self.rows[k] = opposite_row(self.rows[i])
        return len(self.rows[k])

    def root(self, i, k):
        if i not in self.rows or k not in self.rows:
            return -1
        n, self.rows[k] = root(self.rows[i])
        return n

    def alike(self, i, j):
        if i not in self.rows or j not in self.rows:
            return -1
        first, second = (shortest_alike(self.rows[slot], self.r) for slot in (i, j))
        return 1 if first == second else 0
