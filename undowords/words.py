"""Words by themselves: tuples of letters, an opposite as the letter below 0.

Every word that is handed in here is reduced, but for the one that is to be.
"""


def reduced(row):
    kept = []
    for letter in row:
        if kept and kept[-1] == -letter:
            kept.pop()
        else:
            kept.append(letter)
    return tuple(kept)


def product_of(first, second):
    return reduced(first + second)


def opposite_of(word):
    return tuple([-letter for letter in reversed(word)])


def paired_ends(word):
    """How many letters at the front have their opposites at the back, from the ends inwards."""
    ends = 0
    while ends < len(word) // 2 and word[ends] == -word[-1 - ends]:
        ends += 1
    return ends


def core_of(word):
    """What is left of a word between its paired ends; nothing only of nothing."""
    ends = paired_ends(word)
    return word[ends:len(word) - ends]


def repeated_part(core):
    """The shortest row that gives the core when it is written again and again."""
    for size in range(1, len(core)):
        # A size that does not divide the core's gives a shorter row, which is not equal.
        if core[:size] * (len(core) // size) == core:
            return core[:size]
    return core


def power_of(word):
    """The greatest n for which the word is some word's n-th power; 0 of nothing."""
    core = core_of(word)
    if len(core) == 0:
        return 0
    return len(core) // len(repeated_part(core))


def root_of(word):
    """The word whose power the word is, for the n that power_of gives."""
    ends = paired_ends(word)
    # Paired ends meet and go out between the copies, so they stand once round all of them.
    return word[:ends] + repeated_part(core_of(word)) + word[len(word) - ends:]


def are_alike(first, second):
    """Words are alike just if the core of one is the core of the other, turned round."""
    core = core_of(first)
    other = core_of(second)
    if len(core) != len(other):
        return False
    # One turn more than needed, so that nothing beside nothing is looked at too.
    for turn in range(len(core) + 1):
        if core[turn:] + core[:turn] == other:
            return True
    return False
