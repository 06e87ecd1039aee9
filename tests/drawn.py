"""Calls that are drawn, as a name and what it's told: mostly within the ranges, at times outside."""

import helper

OUTSIDE = [-1, 2147483647, -2147483648]
CHANGES = ["word"] * 7 + ["times"] * 4 + ["opposite", "root"]
QUESTIONS = ["alike", "made", "made", "few", "kinds", "same", "both", "both", "read"]


def drawn_slot(draw):
    return draw.choice([0, 1, 2, 3, 4, 5, 6, 7] * 6 + OUTSIDE + [8])


def drawn_set(draw):
    """A number of words: of all, of a few, of none, or no such number."""
    few_words = 0
    for again in range(draw.randrange(1, 4)):
        few_words |= 1 << draw.randrange(8)
    return draw.choice([few_words] * 16 + [draw.randrange(256)] * 6 + [0, 255, 256] + OUTSIDE)


def drawn_row(draw, r, length):
    """Letters as they are handed over; seldom one that isn't there."""
    signs = [letter for letter in range(1, r + 1)] + [256 - letter for letter in range(1, r + 1)]
    row = [draw.choice(signs) for place in range(draw.randrange(length + 1))]
    if draw.randrange(3) == 0:
        row = [draw.choice(signs)] * len(row)
    if row and draw.randrange(20) == 0:
        row[-1] = draw.choice([0, 5, 128, 251])
    return row


def drawn_call(draw, r, length):
    name = draw.choice(CHANGES if draw.randrange(2) == 0 else QUESTIONS)
    if draw.randrange(200) == 0:
        name = draw.choice(["begin", "letters"])
    told = {
        "begin": [],
        "letters": [draw.choice([r] * 4 + [0, 5] + OUTSIDE)],
        "word": [drawn_slot(draw), drawn_row(draw, r, length)],
        "times": [drawn_slot(draw), drawn_slot(draw), drawn_slot(draw)],
        "opposite": [drawn_slot(draw), drawn_slot(draw)],
        "root": [drawn_slot(draw), drawn_slot(draw)],
        "alike": [drawn_slot(draw), drawn_slot(draw)],
        "made": [drawn_set(draw), drawn_slot(draw)],
        "few": [drawn_set(draw)],
        "kinds": [drawn_set(draw)],
        "same": [drawn_set(draw), drawn_set(draw)],
        "both": [drawn_set(draw), drawn_set(draw)],
        "read": [drawn_slot(draw), draw.choice(list(range(18)) + OUTSIDE)],
    }
    return name, told[name]


def drawn_calls(draw, r, length, count):
    """So many calls, begin first, on words of r letters, put in place with no more than length letters."""
    return [("begin", []), ("letters", [r])] + [drawn_call(draw, r, length) for place in range(count - 2)]


def call_of(name, told):
    return helper.raw_word(*told) if name == "word" else getattr(helper, name)(*told)
