"""A list of calls on one new board, and the list of what they answer."""

from undowords.board import Board
from undowords.board import call_alike, call_begin, call_letters, call_opposite, call_root, call_times, call_word
from undowords.board import call_both, call_few, call_kinds, call_made, call_read, call_same

BEGIN = 0
LETTERS = 1
WORD = 2
TIMES = 3
OPPOSITE = 4
ROOT = 5
ALIKE = 6
MADE = 7
FEW = 8
KINDS = 9
SAME = 10
BOTH = 11
READ = 12

# How many whole numbers stand behind each call's number, ahead of its row.
NUMBERS_BEHIND = (0, 1, 1, 3, 2, 2, 2, 2, 1, 1, 2, 2, 2)


class UnknownCall(ValueError):
    pass


def end_of_call(calls, start):
    """The place behind the call that begins at start."""
    number = calls[start]
    if not 0 <= number < len(NUMBERS_BEHIND):
        raise UnknownCall(f"no call has the number {number}")
    end = start + 1 + NUMBERS_BEHIND[number]
    if number == WORD:
        end += 1 + calls[end]
    return end


def answer_of_change(board, call):
    """What one of the calls begin to root answers, which put words in place."""
    number = call[0]
    if number == BEGIN:
        return call_begin(board)
    if number == LETTERS:
        return call_letters(board, call[1])
    if number == WORD:
        # call[2] is how many letters follow.
        return call_word(board, call[1], call[3:])
    if number == TIMES:
        return call_times(board, call[1], call[2], call[3])
    if number == OPPOSITE:
        return call_opposite(board, call[1], call[2])
    return call_root(board, call[1], call[2])


def answer_of_question(board, call):
    """What one of the calls alike to both answers, which leave all as it is."""
    number = call[0]
    if number == ALIKE:
        return call_alike(board, call[1], call[2])
    if number == MADE:
        return call_made(board, call[1], call[2])
    if number == FEW:
        return call_few(board, call[1])
    if number == KINDS:
        return call_kinds(board, call[1])
    if number == SAME:
        return call_same(board, call[1], call[2])
    return call_both(board, call[1], call[2])


def answer_of(board, call):
    """The numbers that one call answers; call holds its number and all behind it."""
    if call[0] == READ:
        return call_read(board, call[1], call[2])
    if call[0] <= ROOT:
        return [answer_of_change(board, call)]
    return [answer_of_question(board, call)]


def answers(calls):
    board = Board()
    given = []
    start = 0
    while start < len(calls):
        end = end_of_call(calls, start)
        answer = answer_of(board, calls[start:end])
        given.append(len(answer))
        given.extend(answer)
        start = end
    return given
