"""The eight words and how many letters there are, and the calls on them.

Each call gives back the number that it answers.
"""

from undowords.words import are_alike, opposite_of, power_of, product_of, reduced, root_of

WORDS = 8
LONGEST_WORD = 16
LETTERS_AT_FIRST = 2
LETTERS_AT_MOST = 4
# A letter below 0 is handed over as this much more.
OPPOSITE_SHIFT = 256

WRONG = -1
TOO_LONG = -2


class Board:
    def __init__(self):
        self.letter_count = LETTERS_AT_FIRST
        self.words = [()] * WORDS


def has_word(i):
    return 0 <= i < WORDS


def clear_words(board, letter_count):
    board.letter_count = letter_count
    board.words = [()] * WORDS


def put_word(board, k, word):
    board.words[k] = word
    return len(word)


def letter_of(number, letter_count):
    """The letter that a handed number stands for, or 0 if it stands for none."""
    if 1 <= number <= letter_count:
        return number
    if OPPOSITE_SHIFT - letter_count <= number < OPPOSITE_SHIFT:
        return number - OPPOSITE_SHIFT
    return 0


def call_begin(board):
    clear_words(board, LETTERS_AT_FIRST)
    return 0


def call_letters(board, r):
    if not 1 <= r <= LETTERS_AT_MOST:
        return WRONG
    clear_words(board, r)
    return 0


def call_word(board, i, numbers):
    if not has_word(i) or len(numbers) > LONGEST_WORD:
        return WRONG
    row = [letter_of(number, board.letter_count) for number in numbers]
    if 0 in row:
        return WRONG
    return put_word(board, i, reduced(row))


def call_times(board, i, j, k):
    if not (has_word(i) and has_word(j) and has_word(k)):
        return WRONG
    product = product_of(board.words[i], board.words[j])
    if len(product) > LONGEST_WORD:
        return TOO_LONG
    return put_word(board, k, product)


def call_opposite(board, i, k):
    if not (has_word(i) and has_word(k)):
        return WRONG
    return put_word(board, k, opposite_of(board.words[i]))


def call_root(board, i, k):
    if not (has_word(i) and has_word(k)):
        return WRONG
    word = board.words[i]
    board.words[k] = root_of(word)
    return power_of(word)


def call_alike(board, i, j):
    if not (has_word(i) and has_word(j)):
        return WRONG
    return 1 if are_alike(board.words[i], board.words[j]) else 0
