"""The words that tables tell: the least one that two don't share, and how many of a length."""

from patternmeans.tables import first_places, shared_classes, steps_by


def least_difference(one, other):
    """The shortest word that just one of the tables tells, of these the first in order, or None."""
    classes = shared_classes(one, other)
    firsts = first_places(classes)
    first = steps_by(one, classes)
    second = steps_by(other, classes)
    # The pairs of states are come to in the order of the least words that lead to them.
    pairs = [(0, 0)]
    ahead_of = {(0, 0): None}
    tried = 0
    while tried < len(pairs):
        pair = pairs[tried]
        if one.ends[pair[0]] != other.ends[pair[1]]:
            return word_to(pair, ahead_of)
        for byte, left, right in zip(firsts, first[pair[0]], second[pair[1]]):
            if (left, right) not in ahead_of:
                ahead_of[(left, right)] = (pair, byte)
                pairs.append((left, right))
        tried += 1
    return None


def word_to(pair, ahead_of):
    """The word that leads to the pair, where each but the first has a pair ahead of it, and a byte."""
    word = []
    step = ahead_of[pair]
    while step is not None:
        word.append(step[1])
        step = ahead_of[step[0]]
    word.reverse()
    return word


def number_of_words(made, length):
    """How many words of the length the table tells."""
    sizes = [made.classes.count(number) for number in range(len(made.steps[0]))]
    # Of each state how many words lead from it to ends, from the empty words on.
    numbers = [1 if end else 0 for end in made.ends]
    for read in range(length):
        numbers = [number_by(row, sizes, numbers) for row in made.steps]
    return numbers[0]


def number_by(row, sizes, numbers):
    """The number of words that begin with a step of the row, which has one for each class."""
    return sum([size * numbers[to] for size, to in zip(sizes, row)])
