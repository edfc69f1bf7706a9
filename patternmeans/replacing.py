"""What found pieces are replaced by."""

from patternmeans.forms import BYTE, GROUP
from patternmeans.reading import Fault, is_digit

WRONG_DOLLAR = 5


def read_by(by):
    """The items of by in order: a BYTE with the byte, or a GROUP with its number (0: the piece)."""
    items = []
    place = 0
    while place < len(by):
        if by[place] == ord("$"):
            items.append(read_pair(by, place))
            place += 2
        else:
            items.append((BYTE, by[place]))
            place += 1
    return items


def read_pair(by, place):
    """The item that the $ at the place and the byte behind it are."""
    if place + 1 == len(by):
        raise Fault(WRONG_DOLLAR, place)
    behind = by[place + 1]
    if behind == ord("$"):
        return (BYTE, behind)
    if is_digit(behind):
        return (GROUP, behind - ord("0"))
    raise Fault(WRONG_DOLLAR, place)


def filled_in(items, subject, piece, places):
    """The bytes that the items stand for, where the piece lies there and its groups at the places."""
    spans = [piece] + places
    told = []
    for kind, number in items:
        if kind == BYTE:
            told.append(number)
        elif number < len(spans) and spans[number] is not None:
            told.extend(within(subject, spans[number]))
    return told


def within(subject, span):
    """The subject's bytes within the span."""
    return subject[span[0]:span[1]]
