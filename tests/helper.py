"""What the tests share: calls by texts, and the document's "What fits" word by word."""

from functools import lru_cache

from patternmeans.patterns import fits, judge

NOT_PLAIN = "\\|&~*+?{}.^$()[]"
SPECIALS = NOT_PLAIN + "-:"
WORD = set(b"ABCDEFGHIJKLMNOPQRSTUVWXYZabcdefghijklmnopqrstuvwxyz0123456789_")


def listed(text):
    """The bytes of a text, or of a list as it is."""
    return [ord(sign) for sign in text] if isinstance(text, str) else list(text)


def judged(pattern):
    return judge(listed(pattern))


def fitted(pattern, subject, start=0, to=None):
    subject = listed(subject)
    return fits(start, len(subject) if to is None else to, listed(pattern), subject)


def fault(rule, place):
    return [9, 2, 0, rule, place]


def pieces(pattern, subject):
    """All pieces of the subject that fits says the pattern fits."""
    places = range(len(subject) + 1)
    answers = {(i, j): fitted(pattern, subject, i, j) for i in places for j in places if i <= j}
    assert all(answer in ([0, 0], [0, 1]) for answer in answers.values()), (pattern, answers)
    return [piece for piece in answers if answers[piece] == [0, 1]]


def members(pattern):
    """The bytes, each for itself, that the pattern fits."""
    return [byte for byte in range(256) if fitted(pattern, [byte]) == [0, 1]]


def meant(tree, subject):
    """All pieces that the tree fits, by the document's words alone.

    A tree is ("bytes", bytes), ("begin",), ("end",), ("edge",), ("no edge",),
    ("row", trees), ("either", trees), ("both", trees), ("turned", tree)
    or ("counted", tree, least, most), where most may be None.
    """
    length = len(subject)

    @lru_cache(None)
    def does(x, i, j):
        if x[0] == "bytes":
            return j == i + 1 and subject[i] in x[1]
        if x[0] == "begin":
            return i == j == 0
        if x[0] == "end":
            return i == j == length
        if x[0] == "edge":
            return i == j and edge(i)
        if x[0] == "no edge":
            return i == j and not edge(i)
        if x[0] == "row":
            return in_row(x[1], i, j)
        if x[0] == "either":
            return any(does(y, i, j) for y in x[1])
        if x[0] == "both":
            return all(does(y, i, j) for y in x[1])
        if x[0] == "turned":
            return not does(x[1], i, j)
        # More x's than bytes only fit with empty ones, which needn't be beyond the least.
        most = max(x[2], j - i) if x[3] is None else x[3]
        return any(in_row((x[1],) * times, i, j) for times in range(x[2], most + 1))

    def edge(i):
        return (i > 0 and subject[i - 1] in WORD) != (i < length and subject[i] in WORD)

    @lru_cache(None)
    def in_row(row, i, j):
        if not row:
            return i == j
        return any(does(row[0], i, k) and in_row(row[1:], k, j) for k in range(i, j + 1))

    return [(i, j) for i in range(length + 1) for j in range(i, length + 1) if does(tree, i, j)]
