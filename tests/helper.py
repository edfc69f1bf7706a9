"""What the tests share: calls by texts, and the document's words taken one by one."""

import random
import re

from patternmeans.patterns import all_found, count, differ, find, fits, judge, quote, replace, split, table

NOT_PLAIN = "\\|&~*+?{}.^$()[]"
SPECIALS = NOT_PLAIN + "-:"
WORD = set(b"ABCDEFGHIJKLMNOPQRSTUVWXYZabcdefghijklmnopqrstuvwxyz0123456789_")


def listed(text):
    """The bytes of a text, or of a list as it is."""
    return [ord(sign) for sign in text] if isinstance(text, str) else list(text)


def judged(pattern):
    return judge(listed(pattern))


def fitted(pattern, subject, start=0, to=None):
    subject = listed(subject)
    return fits(start, len(subject) if to is None else to, listed(pattern), subject)


def found(pattern, subject, start=0):
    return find(start, listed(pattern), listed(subject))


def found_piece(piece, *places):
    """What find answers by its piece and the places of the groups, each a span or None."""
    answer = [0, *piece, len(places)]
    for place in places:
        answer += [0] if place is None else [1, *place]
    return answer


def everywhere(pattern, subject):
    return all_found(listed(pattern), listed(subject))


def found_pieces(*spans):
    """What all_found answers by the spans."""
    return [0, len(spans), *(place for span in spans for place in span)]


def cut(pattern, subject):
    return split(listed(pattern), listed(subject))


def replaced(pattern, subject, by):
    return replace(listed(pattern), listed(subject), listed(by))


def replaced_by(text):
    """What replace answers by the bytes that it gives."""
    return [0, len(text), *listed(text)]


def quoted(subject):
    return quote(listed(subject))


def tabled(pattern):
    return table(listed(pattern))


def differed(pattern, other):
    return differ(listed(pattern), listed(other))


def counted(pattern, length):
    return count(length, listed(pattern))


def fault(rule, place, which=0):
    return [9, 2, which, rule, place]


def pieces(pattern, subject):
    """All pieces of the subject that fits says the pattern fits."""
    places = range(len(subject) + 1)
    answers = {(i, j): fitted(pattern, subject, i, j) for i in places for j in places if i <= j}
    assert all(answer in ([0, 0], [0, 1]) for answer in answers.values()), (pattern, answers)
    return [piece for piece in answers if answers[piece] == [0, 1]]


def members(pattern):
    """The bytes, each for itself, that the pattern fits."""
    return [byte for byte in range(256) if fitted(pattern, [byte]) == [0, 1]]


class Meant:
    """What a tree fits in a subject, and its way, by the document's words alone.

    A tree is ("bytes", bytes), ("begin",), ("end",), ("edge",), ("no edge",),
    ("row", trees), ("either", trees), ("both", trees), ("turned", tree),
    ("counted", tree, least, most), where most may be None, or ("group", tree, number).
    """

    def __init__(self, tree, subject):
        self.tree = tree
        self.subject = subject
        self.length = len(subject)
        self.known = {}

    def does(self, x, i, j):
        if (x, i, j) not in self.known:
            self.known[x, i, j] = self.fits(x, i, j)
        return self.known[x, i, j]

    def fits(self, x, i, j):
        if x[0] == "bytes":
            return j == i + 1 and self.subject[i] in x[1]
        if x[0] == "begin":
            return i == j == 0
        if x[0] == "end":
            return i == j == self.length
        if x[0] == "edge":
            return i == j and self.edge(i)
        if x[0] == "no edge":
            return i == j and not self.edge(i)
        if x[0] == "row":
            if not x[1]:
                return i == j
            return any(self.does(x[1][0], i, k) and self.does(("row", x[1][1:]), k, j) for k in range(i, j + 1))
        if x[0] == "either":
            return any(self.does(y, i, j) for y in x[1])
        if x[0] == "both":
            return all(self.does(y, i, j) for y in x[1])
        if x[0] == "turned":
            return not self.does(x[1], i, j)
        if x[0] == "group":
            return self.does(x[1], i, j)
        # More x's than bytes only fit with empty ones, which needn't be beyond the least.
        most = max(x[2], j - i) if x[3] is None else x[3]
        return any(self.does(("row", (x[1],) * times), i, j) for times in range(x[2], most + 1))

    def edge(self, i):
        before = i > 0 and self.subject[i - 1] in WORD
        return before != (i < self.length and self.subject[i] in WORD)

    def pieces(self):
        """All pieces that the tree fits."""
        places = range(self.length + 1)
        return [(i, j) for i in places for j in places[i:] if self.does(self.tree, i, j)]

    def found(self, start):
        """The piece found from the start on, or None."""
        behind = [(i, j) for i, j in self.pieces() if i >= start]
        first = [(i, j) for i, j in behind if i == behind[0][0]]
        return max(first, default=None)

    def all_found(self):
        """All pieces found."""
        spans = []
        span = self.found(0)
        while span is not None:
            spans.append(span)
            j = span[1]
            span = self.found(j)
            if span == (j, j):
                span = self.found(j + 1)
        return spans

    def between(self):
        """The spans between all found."""
        ends = [0, *(place for span in self.all_found() for place in span), self.length]
        return list(zip(ends[::2], ends[1::2]))

    def replaced(self, by):
        """The subject with each piece found replaced by by, which has no fault."""
        bounds = self.between()
        result = list(self.subject[:bounds[0][1]])
        for (i, j), (behind, to) in zip(self.all_found(), bounds[1:]):
            spans = {0: (i, j), **self.places(i, j)}
            for token in re.findall(rb"\$\$|\$[0-9]|[^$]", by, re.DOTALL):
                if token[:1] != b"$" or token == b"$$":
                    result += token[-1:]
                elif int(token[1:]) in spans:
                    k, m = spans[int(token[1:])]
                    result += self.subject[k:m]
            result += self.subject[behind:to]
        return result

    def places(self, i, j):
        """Of each group that fits on the way from i to j by its number where it does so last."""
        places = {}
        self.go(self.tree, i, j, places)
        return places

    def go(self, x, i, j, places):
        if x[0] == "row" and x[1]:
            k = max(k for k in range(i, j + 1) if self.does(x[1][0], i, k) and self.does(("row", x[1][1:]), k, j))
            self.go(x[1][0], i, k, places)
            self.go(("row", x[1][1:]), k, j, places)
        if x[0] == "either":
            self.go([y for y in x[1] if self.does(y, i, j)][0], i, j, places)
        if x[0] == "group":
            places[x[2]] = (i, j)
            self.go(x[1], i, j, places)
        if x[0] == "counted" and not (i == j and x[2] == 0):
            rest = ("counted", x[1], max(x[2] - 1, 0), None if x[3] is None else x[3] - 1)
            least = i if x[2] > 0 else i + 1
            k = max(k for k in range(least, j + 1) if self.does(x[1], i, k) and self.does(rest, k, j))
            self.go(x[1], i, k, places)
            self.go(rest, k, j, places)


EVERY = frozenset(range(256))
# Atoms without places, with trees whose sets are made of the groups.
ATOMS = [
    ("a", ("bytes", b"a")), ("b", ("bytes", b"b")), ("[ab]", ("bytes", b"ab")), ("[^a]", ("bytes", EVERY - {97})),
    (".", ("bytes", EVERY - {10})), ("\\n", ("bytes", b"\n")), ("[^\\x00-\\xff]", ("bytes", b"")),
    ("[\\x00-\\xff]", ("bytes", EVERY)), ("\\x00", ("bytes", b"\x00")), ("[^\\x00\\xff]", ("bytes", EVERY - {0, 255})),
]
GROUPS = [[0], [*range(1, 10), *range(11, 97), *range(99, 255)], [10], [97], [98], [255]]
COUNTS = [
    ("*", 0, None), ("+", 1, None), ("?", 0, 1), ("{0}", 0, 0), ("{0,0}", 0, 0), ("{1}", 1, 1), ("{2}", 2, 2),
    ("{3}", 3, 3), ("{0,}", 0, None), ("{2,}", 2, None), ("{1,2}", 1, 2), ("{2,4}", 2, 4), ("{0,3}", 0, 3),
]


class TooManyStates(Exception):
    pass


class Made:
    """A tree's table, made by the document's words alone.

    The groups are lists of bytes; each set of the tree holds all bytes of a group or none.
    A table is told by the ends and by the next states of each state by each group.
    """

    def __init__(self, groups):
        self.groups = sorted(sorted(group) for group in groups)
        assert sorted(byte for group in self.groups for byte in group) == list(range(256))
        self.empty_row = self.least("before", lambda state, group: "behind", lambda state: state == "before")

    def answer(self, tree):
        """What table answers of the tree's pattern."""
        try:
            ends, steps = self.made(tree)
        except TooManyStates:
            return [9, 6]
        columns = list(zip(*steps))
        kept = list(dict.fromkeys(columns))
        class_of = {byte: kept.index(column) for group, column in zip(self.groups, columns) for byte in group}
        numbers = [len(ends), len(kept), *(class_of[byte] for byte in range(256))]
        for state, end in enumerate(ends):
            numbers += [int(end), *(column[state] for column in kept)]
        return [0, *numbers]

    def made(self, x):
        if x[0] == "bytes":
            return self.one_byte(x[1])
        if x[0] == "turned":
            ends, steps = self.made(x[1])
            return [not end for end in ends], steps
        if x[0] == "group":
            return self.made(x[1])
        if x[0] == "counted":
            return self.counted(self.made(x[1]), x[2], x[3])
        parts = [self.made(y) for y in x[1]]
        if not parts:
            return self.empty_row
        made = parts.pop()
        while parts:
            one = parts.pop()
            made = self.row(one, made) if x[0] == "row" else self.pairs(x[0], one, made)
        return made

    def least(self, beginning, step, is_end):
        """The least table of the states that are come to from the beginning."""
        groups = range(len(self.groups))
        states = {beginning: None}
        ahead = [beginning]
        while ahead:
            for state in [step(ahead[0], group) for group in groups]:
                if state not in states:
                    states[state] = None
                    ahead.append(state)
            if len(states) > 100:
                raise TooManyStates
            ahead.pop(0)
        blocks = {state: is_end(state) for state in states}
        parted = 0
        while parted < len(set(blocks.values())):
            parted = len(set(blocks.values()))
            told = {state: (blocks[state], *(blocks[step(state, group)] for group in groups)) for state in states}
            numbers = {block: number for number, block in enumerate(set(told.values()))}
            blocks = {state: numbers[told[state]] for state in states}
        member = {block: state for state, block in blocks.items()}
        order = [blocks[beginning]]
        for block in order:
            nexts = [blocks[step(member[block], group)] for group in groups]
            order += [block for block in dict.fromkeys(nexts) if block not in order]
        steps = [[order.index(blocks[step(member[block], group)]) for group in groups] for block in order]
        return [is_end(member[block]) for block in order], steps

    def one_byte(self, members):
        inside = [group[0] in members for group in self.groups]
        assert all((byte in members) == within for group, within in zip(self.groups, inside) for byte in group)
        return self.least(
            "before", lambda state, group: "in" if state == "before" and inside[group] else "out",
            lambda state: state == "in",
        )

    def pairs(self, kind, one, other):
        ends = any if kind == "either" else all
        return self.least(
            (0, 0), lambda pair, group: (one[1][pair[0]][group], other[1][pair[1]][group]),
            lambda pair: ends([one[0][pair[0]], other[0][pair[1]]]),
        )

    def row(self, one, other):
        def joined(state, states):
            return state, frozenset(states | {0} if one[0][state] else states)

        return self.least(
            joined(0, set()), lambda pair, group: joined(one[1][pair[0]][group], {other[1][y][group] for y in pair[1]}),
            lambda pair: any(other[0][y] for y in pair[1]),
        )

    def any_number(self, once):
        def step(states, group):
            states = {once[1][x][group] for x in ([0] if states == "beginning" else states)}
            return frozenset(states | {0} if any(once[0][x] for x in states) else states)

        return self.least("beginning", step, lambda states: states == "beginning" or any(once[0][x] for x in states))

    def counted(self, once, least, most):
        ahead = self.empty_row
        for times in range(least):
            ahead = self.row(ahead, once)
        if most == least:
            return ahead
        behind = self.empty_row
        if most is None:
            behind = self.any_number(once)
        else:
            for times in range(most - least):
                behind = self.pairs("either", self.empty_row, self.row(once, behind))
        return self.row(ahead, behind) if least > 0 else behind


class Drawn:
    """Patterns with their trees, drawn by a fixed seed from atoms with their trees, and from counts."""

    def __init__(self, seed, atoms, counts):
        self.draw = random.Random(seed)
        self.atoms = atoms
        self.counts = counts
        self.groups = 0

    def drawn(self, depth, fewest, longest):
        """A pattern with no fewer groups and no more bytes, its tree, and how many groups it has."""
        while True:
            self.groups = 0
            text, tree = self.pattern(depth, True)
            if len(text) <= longest and self.groups >= fewest:
                return text, tree, self.groups

    def without_groups(self, depth, longest):
        """A pattern with no group and no more bytes."""
        while True:
            text = self.pattern(depth, False)[0]
            if len(text) <= longest:
                return text

    def pattern(self, depth, open_to_groups):
        rows = [self.row(depth, open_to_groups) for times in range(self.draw.choice((1, 1, 1, 2, 3)))]
        return "|".join(text for text, tree in rows), ("either", tuple(tree for text, tree in rows))

    def row(self, depth, open_to_groups):
        how_many = self.draw.choice((1, 1, 1, 1, 2, 3))
        if how_many == 1:
            return self.part(depth, open_to_groups)
        parts = [self.part(depth, False) for times in range(how_many)]
        return "&".join(text for text, tree in parts), ("both", tuple(tree for text, tree in parts))

    def part(self, depth, open_to_groups):
        row = [self.piece(depth, open_to_groups) for times in range(self.draw.choice((0, 1, 1, 1, 2, 2, 3)))]
        return "".join(text for text, tree in row), ("row", tuple(tree for text, tree in row))

    def piece(self, depth, open_to_groups):
        turned = self.draw.random() < 0.2
        text, tree = self.atom(depth, open_to_groups and not turned)
        for times in range(self.draw.choice((0, 0, 0, 1, 1, 2))):
            sign, least, most = self.draw.choice(self.counts)
            text, tree = text + sign, ("counted", tree, least, most)
        if turned:
            text, tree = "~" + text, ("turned", tree)
        return text, tree

    def atom(self, depth, open_to_groups):
        if depth == 0 or self.draw.random() < 0.5:
            return self.draw.choice(self.atoms)
        if not open_to_groups or self.draw.random() < 0.3:
            text, tree = self.pattern(depth - 1, open_to_groups)
            return "(:" + text + ")", tree
        self.groups += 1
        number = self.groups
        text, tree = self.pattern(depth - 1, True)
        return "(" + text + ")", ("group", tree, number)
