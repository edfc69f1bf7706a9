"""A pattern's table, made of its parts' tables as its form has them.

What is come to on the way may be too many states even where the least table has few. So
each step is made just as it is told: none is left out, and none is taken with another.
"""

from patternmeans.forms import BEGIN, BOTH, BYTE, COUNTED, EDGE, EITHER, END, NO_EDGE, ROW, TURNED
from patternmeans.tables import Table, are_same, first_places, made_table, numbers_by_first, shared_classes, steps_by

# A set of states is a whole number whose bit k is 1 if state k is in it.
NO_STATE = 0
BEGINNING = 1

# In what is made of x{0,} each set has a state in it, so none is this number.
OWN_BEGINNING = 0

# What is read of one byte: nothing yet, one that fits and nothing else, or any other.
NOTHING = 0
FITTING = 1
OTHER = 2


class HasPlaces(Exception):
    """A pattern has a form that fits by its place alone, so that it has no table."""


def pattern_tables(patterns):
    """The tables of patterns, each of which is told by its forms."""
    for forms in patterns:
        if any([form.kind in (BEGIN, END, EDGE, NO_EDGE) for form in forms]):
            raise HasPlaces()
    return [pattern_table(forms) for forms in patterns]


def pattern_table(forms):
    """The table of a pattern without places."""
    tables = []
    for form in forms:
        tables.append(form_table(form, [tables[part] for part in form.parts]))
    return tables[-1]


def form_table(form, parts):
    """The table of a form, from its parts' tables."""
    if form.kind == BYTE:
        return byte_table(form.told)
    if form.kind == ROW:
        return joined(parts, row_table) if len(parts) > 0 else empty_row_table()
    if form.kind == EITHER:
        return joined(parts, either_table)
    if form.kind == BOTH:
        return joined(parts, both_table)
    if form.kind == TURNED:
        return turned_table(parts[0])
    if form.kind == COUNTED:
        return counted_table(parts[0], form.told[0], form.told[1])
    return parts[0]


def joined(parts, join):
    """The first part joined with the rest, which is joined so too; the last part by itself."""
    rest = parts[-1]
    for place in range(len(parts) - 2, -1, -1):
        rest = join(parts[place], rest)
    return rest


def byte_table(members):
    """The table of one byte out of the members."""
    classes = numbers_by_first(members)
    by_first = [FITTING if members[byte] else OTHER for byte in first_places(classes)]
    beyond = [OTHER for step in by_first]

    def steps_of(read):
        return by_first if read == NOTHING else beyond

    return made_table(classes, NOTHING, steps_of, lambda read: read == FITTING)


def empty_row_table():
    """The table of the empty word alone."""
    return Table([0] * 256, [True, False], [[1], [1]])


def turned_table(once):
    """The table of all words but the table's."""
    return Table(once.classes, [not end for end in once.ends], once.steps)


def either_table(one, other):
    """The table of the words of one or of the other, or of both."""
    return pairs_table(one, other, lambda pair: one.ends[pair[0]] or other.ends[pair[1]])


def both_table(one, other):
    """The table of the words of one and of the other."""
    return pairs_table(one, other, lambda pair: one.ends[pair[0]] and other.ends[pair[1]])


def pairs_table(one, other, is_end):
    """The table that goes on in both tables at once."""
    classes = shared_classes(one, other)
    first = steps_by(one, classes)
    second = steps_by(other, classes)
    return made_table(classes, (0, 0), lambda pair: list(zip(first[pair[0]], second[pair[1]])), is_end)


class Sets:
    """Sets of a table's states, and what sets they go on to."""

    def __init__(self, ends, steps):
        self.ends = sum([1 << state for state, end in enumerate(ends) if end])
        self.steps = steps
        self.known = {NO_STATE: [NO_STATE for step in steps[0]]}

    def has_end(self, states):
        """Whether an end is one of the states."""
        return states & self.ends > 0

    def next_sets(self, states):
        """The set that the states go on to, by each class."""
        if states not in self.known:
            nexts = self.known[NO_STATE]
            for state, row in enumerate(self.steps):
                if states >> state & 1 == 1:
                    nexts = [reached | (1 << to) for reached, to in zip(nexts, row)]
            self.known[states] = nexts
        return self.known[states]


def row_table(one, other):
    """The table of a word of one with a word of the other behind it."""
    classes = shared_classes(one, other)
    first = steps_by(one, classes)
    sets = Sets(other.ends, steps_by(other, classes))
    begun = [BEGINNING if end else NO_STATE for end in one.ends]

    def steps_of(pair):
        return [(to, reached | begun[to]) for to, reached in zip(first[pair[0]], sets.next_sets(pair[1]))]

    return made_table(classes, (0, begun[0]), steps_of, lambda pair: sets.has_end(pair[1]))


def any_number_table(once):
    """The table of x{0,}, from x's."""
    sets = Sets(once.ends, once.steps)

    def steps_of(states):
        nexts = sets.next_sets(BEGINNING if states == OWN_BEGINNING else states)
        return [reached | BEGINNING if sets.has_end(reached) else reached for reached in nexts]

    def is_end(states):
        return states == OWN_BEGINNING or sets.has_end(states)

    return made_table(once.classes, OWN_BEGINNING, steps_of, is_end)


def times_table(once, times):
    """The table of x so many times, from x's."""
    made = empty_row_table()
    for number in range(times):
        longer = row_table(made, once)
        # Each step is made of the one before: what doesn't change it will never do so.
        if are_same(longer, made):
            return made
        made = longer
    return made


def up_to_table(once, times):
    """The table of no x to so many, from x's."""
    made = empty_row_table()
    for number in range(times):
        longer = either_table(empty_row_table(), row_table(once, made))
        if are_same(longer, made):
            return made
        made = longer
    return made


def counted_table(once, least, most):
    """The table of least to most x's, or of least and more if most is None, from x's."""
    if most == least:
        return times_table(once, least)
    if most is None:
        behind = any_number_table(once)
    else:
        behind = up_to_table(once, most - least)
    if least == 0:
        return behind
    return row_table(times_table(once, least), behind)
