"""The eight words and how many letters there are, and the calls on them.

Each call gives back the number that it answers, but read: that one gives back a list.
"""

from undowords.graph import count_kinds, fewest_words, graph_of, graph_of_both, makes, makes_all
from undowords.words import are_alike, opposite_of, power_of, product_of, reduced, root_of

WORDS = 8
LONGEST_WORD = 16
# A bit for each word says whether it's among the words of a number.
NUMBERS_OF_WORDS = 256
# Words are light with at most so many letters together.
MOST_LIGHT_LETTERS = 64
LETTERS_AT_FIRST = 2
LETTERS_AT_MOST = 4
# A letter below 0 is handed over and told as this much more.
OPPOSITE_SHIFT = 256

WRONG = -1
TOO_LONG = -2


class Board:
    def __init__(self):
        self.letter_count = LETTERS_AT_FIRST
        self.words = [()] * WORDS


def has_word(i):
    return 0 <= i < WORDS


def clear_words(board, letter_count):
    board.letter_count = letter_count
    board.words = [()] * WORDS


def put_word(board, k, word):
    board.words[k] = word
    return len(word)


def letter_of(number, letter_count):
    """The letter that a handed number stands for, or 0 if it stands for none."""
    if 1 <= number <= letter_count:
        return number
    if OPPOSITE_SHIFT - letter_count <= number < OPPOSITE_SHIFT:
        return number - OPPOSITE_SHIFT
    return 0


def number_of(letter):
    """The number that stands for a letter where letters are told."""
    return letter if letter > 0 else letter + OPPOSITE_SHIFT


def call_begin(board):
    clear_words(board, LETTERS_AT_FIRST)
    return 0


def call_letters(board, r):
    if not 1 <= r <= LETTERS_AT_MOST:
        return WRONG
    clear_words(board, r)
    return 0


def call_word(board, i, numbers):
    if not has_word(i) or len(numbers) > LONGEST_WORD:
        return WRONG
    row = [letter_of(number, board.letter_count) for number in numbers]
    if 0 in row:
        return WRONG
    return put_word(board, i, reduced(row))


def call_times(board, i, j, k):
    if not (has_word(i) and has_word(j) and has_word(k)):
        return WRONG
    product = product_of(board.words[i], board.words[j])
    if len(product) > LONGEST_WORD:
        return TOO_LONG
    return put_word(board, k, product)


def call_opposite(board, i, k):
    if not (has_word(i) and has_word(k)):
        return WRONG
    return put_word(board, k, opposite_of(board.words[i]))


def call_root(board, i, k):
    if not (has_word(i) and has_word(k)):
        return WRONG
    word = board.words[i]
    board.words[k] = root_of(word)
    return power_of(word)


def call_alike(board, i, j):
    if not (has_word(i) and has_word(j)):
        return WRONG
    return 1 if are_alike(board.words[i], board.words[j]) else 0


def words_of(board, m):
    return [board.words[i] for i in range(WORDS) if (m >> i) & 1 == 1]


def has_light_words(board, m):
    if not 0 <= m < NUMBERS_OF_WORDS:
        return False
    return sum([len(word) for word in words_of(board, m)]) <= MOST_LIGHT_LETTERS


def graph_made(board, m):
    return graph_of(words_of(board, m))


def call_made(board, m, i):
    if not (has_light_words(board, m) and has_word(i)):
        return WRONG
    return 1 if makes(graph_made(board, m), board.words[i]) else 0


def call_few(board, m):
    if not has_light_words(board, m):
        return WRONG
    return fewest_words(graph_made(board, m))


def call_kinds(board, m):
    if not has_light_words(board, m):
        return WRONG
    return count_kinds(graph_made(board, m), board.letter_count)


def call_same(board, m, n):
    if not (has_light_words(board, m) and has_light_words(board, n)):
        return WRONG
    if not makes_all(graph_made(board, m), words_of(board, n)):
        return 0
    return 1 if makes_all(graph_made(board, n), words_of(board, m)) else 0


def call_both(board, m, n):
    if not (has_light_words(board, m) and has_light_words(board, n)):
        return WRONG
    return fewest_words(graph_of_both(graph_made(board, m), graph_made(board, n)))


def call_read(board, i, most):
    if not has_word(i):
        return [WRONG]
    word = board.words[i]
    answer = [len(word)]
    if 1 <= most <= LONGEST_WORD:
        answer.extend([number_of(letter) for letter in word[:most]])
    return answer
