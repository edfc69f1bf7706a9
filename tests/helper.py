"""What the tests share: calls by texts, and the document's "What fits" word by word."""

import re

from patternmeans.patterns import all_found, find, fits, judge, replace, split

NOT_PLAIN = "\\|&~*+?{}.^$()[]"
SPECIALS = NOT_PLAIN + "-:"
WORD = set(b"ABCDEFGHIJKLMNOPQRSTUVWXYZabcdefghijklmnopqrstuvwxyz0123456789_")


def listed(text):
    """The bytes of a text, or of a list as it is."""
    return [ord(sign) for sign in text] if isinstance(text, str) else list(text)


def judged(pattern):
    return judge(listed(pattern))


def fitted(pattern, subject, start=0, to=None):
    subject = listed(subject)
    return fits(start, len(subject) if to is None else to, listed(pattern), subject)


def found(pattern, subject, start=0):
    return find(start, listed(pattern), listed(subject))


def found_piece(piece, *places):
    """What find answers by its piece and the places of the groups, each a span or None."""
    answer = [0, *piece, len(places)]
    for place in places:
        answer += [0] if place is None else [1, *place]
    return answer


def everywhere(pattern, subject):
    return all_found(listed(pattern), listed(subject))


def found_pieces(*spans):
    """What all_found answers by the spans."""
    return [0, len(spans), *(place for span in spans for place in span)]


def cut(pattern, subject):
    return split(listed(pattern), listed(subject))


def replaced(pattern, subject, by):
    return replace(listed(pattern), listed(subject), listed(by))


def replaced_by(text):
    """What replace answers by the bytes that it gives."""
    return [0, len(text), *listed(text)]


def fault(rule, place):
    return [9, 2, 0, rule, place]


def pieces(pattern, subject):
    """All pieces of the subject that fits says the pattern fits."""
    places = range(len(subject) + 1)
    answers = {(i, j): fitted(pattern, subject, i, j) for i in places for j in places if i <= j}
    assert all(answer in ([0, 0], [0, 1]) for answer in answers.values()), (pattern, answers)
    return [piece for piece in answers if answers[piece] == [0, 1]]


def members(pattern):
    """The bytes, each for itself, that the pattern fits."""
    return [byte for byte in range(256) if fitted(pattern, [byte]) == [0, 1]]


class Meant:
    """What a tree fits in a subject, and its way, by the document's words alone.

    A tree is ("bytes", bytes), ("begin",), ("end",), ("edge",), ("no edge",),
    ("row", trees), ("either", trees), ("both", trees), ("turned", tree),
    ("counted", tree, least, most), where most may be None, or ("group", tree, number).
    """

    def __init__(self, tree, subject):
        self.tree = tree
        self.subject = subject
        self.length = len(subject)
        self.known = {}

    def does(self, x, i, j):
        if (x, i, j) not in self.known:
            self.known[x, i, j] = self.fits(x, i, j)
        return self.known[x, i, j]

    def fits(self, x, i, j):
        if x[0] == "bytes":
            return j == i + 1 and self.subject[i] in x[1]
        if x[0] == "begin":
            return i == j == 0
        if x[0] == "end":
            return i == j == self.length
        if x[0] == "edge":
            return i == j and self.edge(i)
        if x[0] == "no edge":
            return i == j and not self.edge(i)
        if x[0] == "row":
            if not x[1]:
                return i == j
            return any(self.does(x[1][0], i, k) and self.does(("row", x[1][1:]), k, j) for k in range(i, j + 1))
        if x[0] == "either":
            return any(self.does(y, i, j) for y in x[1])
        if x[0] == "both":
            return all(self.does(y, i, j) for y in x[1])
        if x[0] == "turned":
            return not self.does(x[1], i, j)
        if x[0] == "group":
            return self.does(x[1], i, j)
        # More x's than bytes only fit with empty ones, which needn't be beyond the least.
        most = max(x[2], j - i) if x[3] is None else x[3]
        return any(self.does(("row", (x[1],) * times), i, j) for times in range(x[2], most + 1))

    def edge(self, i):
        before = i > 0 and self.subject[i - 1] in WORD
        return before != (i < self.length and self.subject[i] in WORD)

    def pieces(self):
        """All pieces that the tree fits."""
        places = range(self.length + 1)
        return [(i, j) for i in places for j in places[i:] if self.does(self.tree, i, j)]

    def found(self, start):
        """The piece found from the start on, or None."""
        behind = [(i, j) for i, j in self.pieces() if i >= start]
        first = [(i, j) for i, j in behind if i == behind[0][0]]
        return max(first, default=None)

    def all_found(self):
        """All pieces found."""
        spans = []
        span = self.found(0)
        while span is not None:
            spans.append(span)
            j = span[1]
            span = self.found(j)
            if span == (j, j):
                span = self.found(j + 1)
        return spans

    def between(self):
        """The spans between all found."""
        ends = [0, *(place for span in self.all_found() for place in span), self.length]
        return list(zip(ends[::2], ends[1::2]))

    def replaced(self, by):
        """The subject with each piece found replaced by by, which has no fault."""
        bounds = self.between()
        result = list(self.subject[:bounds[0][1]])
        for (i, j), (behind, to) in zip(self.all_found(), bounds[1:]):
            spans = {0: (i, j), **self.places(i, j)}
            for token in re.findall(rb"\$\$|\$[0-9]|[^$]", by, re.DOTALL):
                if token[:1] != b"$" or token == b"$$":
                    result += token[-1:]
                elif int(token[1:]) in spans:
                    k, m = spans[int(token[1:])]
                    result += self.subject[k:m]
            result += self.subject[behind:to]
        return result

    def places(self, i, j):
        """Of each group that fits on the way from i to j by its number where it does so last."""
        places = {}
        self.go(self.tree, i, j, places)
        return places

    def go(self, x, i, j, places):
        if x[0] == "row" and x[1]:
            k = max(k for k in range(i, j + 1) if self.does(x[1][0], i, k) and self.does(("row", x[1][1:]), k, j))
            self.go(x[1][0], i, k, places)
            self.go(("row", x[1][1:]), k, j, places)
        if x[0] == "either":
            self.go([y for y in x[1] if self.does(y, i, j)][0], i, j, places)
        if x[0] == "group":
            places[x[2]] = (i, j)
            self.go(x[1], i, j, places)
        if x[0] == "counted" and not (i == j and x[2] == 0):
            rest = ("counted", x[1], max(x[2] - 1, 0), None if x[3] is None else x[3] - 1)
            least = i if x[2] > 0 else i + 1
            k = max(k for k in range(least, j + 1) if self.does(x[1], i, k) and self.does(rest, k, j))
            self.go(x[1], i, k, places)
            self.go(rest, k, j, places)
