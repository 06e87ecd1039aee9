"""What some words make, as a graph: places, and letters that lead from one to another.

A graph is a list with a dict for each place, that tells where each letter leads
from there; the letter's opposite leads back. The first place is the base. What is
made is just the words that lead from the base to the base.
"""

BASE = 0


class Folding:
    """A graph in the making, whose places may become one."""

    def __init__(self):
        self.ways = [{}]
        # What each place has become: itself while it stands.
        self.became = [BASE]


def place_now(folding, place):
    while folding.became[place] != place:
        place = folding.became[place]
    return place


def new_place(folding):
    place = len(folding.became)
    folding.ways.append({})
    folding.became.append(place)
    return place


def next_place(folding, place, letter):
    """Where the letter leads from a place that stands: to a new one, if it led nowhere."""
    ways = folding.ways[place]
    if letter not in ways:
        ways[letter] = new_place(folding)
        folding.ways[ways[letter]][-letter] = place
    return place_now(folding, ways[letter])


def move_ways(folding, gone, kept):
    """Let one place become another; the pairs of places to which a letter now leads at once."""
    folding.became[gone] = kept
    kept_ways = folding.ways[kept]
    gone_ways = folding.ways[gone]
    clashes = []
    for letter in list(gone_ways):
        if letter in kept_ways:
            clashes.append((kept_ways[letter], gone_ways[letter]))
        else:
            kept_ways[letter] = gone_ways[letter]
    return clashes


def fold(folding, first, second):
    """Make two places one, and then any two to which the same letter leads from one place."""
    waiting = [(first, second)]
    while waiting:
        pair = waiting.pop()
        one = place_now(folding, pair[0])
        other = place_now(folding, pair[1])
        if one != other:
            # The lower one stays, and so the base does.
            waiting.extend(move_ways(folding, max(one, other), min(one, other)))


def add_round(folding, word):
    place = BASE
    for letter in word:
        place = next_place(folding, place, letter)
    fold(folding, place, BASE)


def settled(folding):
    """The graph of the places that stand, numbered anew in their order."""
    standing = [place for place in range(len(folding.became)) if folding.became[place] == place]
    numbers = {}
    for place in standing:
        numbers[place] = len(numbers)
    graph = []
    for place in standing:
        ways = {}
        for letter in folding.ways[place]:
            ways[letter] = numbers[place_now(folding, folding.ways[place][letter])]
        graph.append(ways)
    return graph


def graph_of(words):
    folding = Folding()
    for word in words:
        add_round(folding, word)
    return settled(folding)


def graph_of_both(first, second):
    """The graph of what two graphs both make: its places are those of both that one word leads to."""
    pairs = [(BASE, BASE)]
    numbers = {(BASE, BASE): BASE}
    graph = []
    while len(graph) < len(pairs):
        pair = pairs[len(graph)]
        first_ways = first[pair[0]]
        second_ways = second[pair[1]]
        ways = {}
        for letter in first_ways:
            if letter in second_ways:
                end = (first_ways[letter], second_ways[letter])
                if end not in numbers:
                    numbers[end] = len(pairs)
                    pairs.append(end)
                ways[letter] = numbers[end]
        graph.append(ways)
    return graph


def makes(graph, word):
    place = BASE
    for letter in word:
        if letter not in graph[place]:
            return False
        place = graph[place][letter]
    return place == BASE


def makes_all(graph, words):
    return all([makes(graph, word) for word in words])


def fewest_words(graph):
    """How few words make what the graph makes: one for each way that isn't needed to reach every place."""
    # A letter's way and its opposite's way back are one.
    ways = sum([len(place_ways) for place_ways in graph]) // 2
    needed = len(graph) - 1
    return ways - needed


def count_kinds(graph, letter_count):
    """How many kinds of words there are, or 0 if there's no end of them.

    Where every letter leads on from everywhere, each kind is a place. Otherwise some
    word leads out of the graph, and each that goes on from there is of a new kind.
    """
    for ways in graph:
        if len(ways) < 2 * letter_count:
            return 0
    return len(graph)
