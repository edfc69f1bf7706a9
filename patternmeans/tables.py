"""Tables: states, which of them are ends, and where each goes on to by each byte.

A table is always the least one for its words, in the one way to number it. So two
tables of the same words are the same number by number.
"""

from patternmeans.parting import blocks_apart

MOST_STATES = 100


class TooMany(Exception):
    """More states are come to than there may be in what a table is made from."""


class Table:
    """Of each byte its class, of each state whether it's an end, and by each class the next state.

    State 0 is the beginning.
    """

    def __init__(self, classes, ends, steps):
        self.classes = classes
        self.ends = ends
        self.steps = steps


def are_same(one, other):
    """Whether two tables are of the same words."""
    return one.classes == other.classes and one.ends == other.ends and one.steps == other.steps


def shared_classes(one, other):
    """Of each byte its class, where bytes are of one class if neither table tells them apart."""
    return numbers_by_first(list(zip(one.classes, other.classes)))


def steps_by(made, classes):
    """The table's steps by classes none of which holds bytes that the table tells apart."""
    places = chosen(made.classes, first_places(classes))
    return [chosen(row, places) for row in made.steps]


def made_table(classes, beginning, steps_of, is_end):
    """The table of the states that are come to from the beginning.

    Of a state steps_of gives the next ones by each class in order, is_end whether it's an end.
    """
    states = [beginning]
    numbers = {beginning: 0}
    steps = []
    while len(steps) < len(states):
        row = []
        for state in steps_of(states[len(steps)]):
            if state not in numbers:
                numbers[state] = len(states)
                states.append(state)
            row.append(numbers[state])
        if len(states) > MOST_STATES:
            raise TooMany()
        steps.append(row)
    return least_table(classes, [is_end(state) for state in states], steps)


def least_table(classes, ends, steps):
    """The least table of the same words, where the states come in the order to be numbered."""
    blocks = numbers_by_first(blocks_apart(ends, steps))
    kept = first_places(blocks)
    rows = [chosen(blocks, steps[state]) for state in kept]
    merged = numbers_by_first([column(rows, place) for place in range(len(rows[0]))])
    kept_classes = first_places(merged)
    return Table(chosen(merged, classes), chosen(ends, kept), [chosen(row, kept_classes) for row in rows])


def column(rows, place):
    """What stands in each row at the place."""
    return tuple([row[place] for row in rows])


def chosen(values, places):
    """The values at the places."""
    return [values[place] for place in places]


def numbers_by_first(keys):
    """For each key its number, from 0 in the order in which they come first."""
    numbers = {}
    for key in keys:
        numbers.setdefault(key, len(numbers))
    return [numbers[key] for key in keys]


def first_places(numbers):
    """For each number from 0 the first place at which it stands."""
    places = []
    for place, number in enumerate(numbers):
        if number == len(places):
            places.append(place)
    return places
