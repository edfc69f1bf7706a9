"""The calls: what is asked of a pattern, and what is answered."""

from patternmeans.fitting import fits_piece
from patternmeans.reading import Fault, read_pattern

LONGEST = 200

ANSWERED = 0
REFUSED = 9
BEYOND_BOUNDS = 1
NO_PATTERN = 2
FIRST_PATTERN = 0


def judge(pattern):
    """Answers how many groups the pattern has."""
    if len(pattern) > LONGEST:
        return [REFUSED, BEYOND_BOUNDS]
    try:
        reader = read_pattern(pattern)
    except Fault as fault:
        return no_pattern(fault)
    return [ANSWERED, reader.groups]


def fits(start, to, pattern, subject):
    """Answers 1 if the pattern fits the subject from start to to, else 0."""
    if len(pattern) > LONGEST or len(subject) > LONGEST or not start <= to <= len(subject):
        return [REFUSED, BEYOND_BOUNDS]
    try:
        reader = read_pattern(pattern)
    except Fault as fault:
        return no_pattern(fault)
    return [ANSWERED, 1 if fits_piece(reader.forms, subject, start, to) else 0]


def no_pattern(fault):
    """The refusal of what is no pattern, by its fault."""
    return [REFUSED, NO_PATTERN, FIRST_PATTERN, fault.rule, fault.place]
