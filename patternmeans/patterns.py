"""The calls: what is asked of a pattern, and what is answered."""

from patternmeans.finding import found_from, found_spans, spans_between
from patternmeans.fitting import all_ends, fits_piece
from patternmeans.grouping import group_places
from patternmeans.making import HasPlaces, pattern_tables
from patternmeans.quoting import quoted
from patternmeans.reading import Fault, read_pattern
from patternmeans.replacing import filled_in, read_by, within
from patternmeans.tables import TooMany
from patternmeans.words import least_difference, number_of_words

LONGEST = 200

ANSWERED = 0
REFUSED = 9
BEYOND_BOUNDS = 1
FAULTY = 2
NONE_FOUND = 5
WITH_PLACES = 5
TOO_MANY = 6
NO_DIFFERENCE = 7
FIRST = 0
SECOND = 1

NO_PLACE = 0
PLACE = 1

NO_END = 0
END_STATE = 1


def judge(pattern):
    """Answers how many groups the pattern has."""
    if len(pattern) > LONGEST:
        return [REFUSED, BEYOND_BOUNDS]
    try:
        reader = read_pattern(pattern)
    except Fault as fault:
        return told_fault(FIRST, fault)
    return [ANSWERED, reader.groups]


def fits(start, to, pattern, subject):
    """Answers 1 if the pattern fits the subject from start to to, else 0."""
    if len(pattern) > LONGEST or len(subject) > LONGEST or not start <= to <= len(subject):
        return [REFUSED, BEYOND_BOUNDS]
    try:
        reader = read_pattern(pattern)
    except Fault as fault:
        return told_fault(FIRST, fault)
    ends = all_ends(reader.forms, subject)[-1]
    return [ANSWERED, 1 if fits_piece(ends, start, to) else 0]


def find(start, pattern, subject):
    """Answers the span of the piece found from start on, and the places of its groups."""
    if len(pattern) > LONGEST or len(subject) > LONGEST or start > len(subject):
        return [REFUSED, BEYOND_BOUNDS]
    try:
        reader = read_pattern(pattern)
    except Fault as fault:
        return told_fault(FIRST, fault)
    ends_of = all_ends(reader.forms, subject)
    span = found_from(ends_of[-1], start)
    if span is None:
        return [REFUSED, NONE_FOUND]
    return [ANSWERED] + list(span) + told_places(group_places(reader.forms, ends_of, span))


def all_found(pattern, subject):
    """Answers the spans of all pieces found."""
    if len(pattern) > LONGEST or len(subject) > LONGEST:
        return [REFUSED, BEYOND_BOUNDS]
    try:
        reader = read_pattern(pattern)
    except Fault as fault:
        return told_fault(FIRST, fault)
    return [ANSWERED] + told_spans(found_spans(all_ends(reader.forms, subject)[-1]))


def split(pattern, subject):
    """Answers the spans between all pieces found."""
    if len(pattern) > LONGEST or len(subject) > LONGEST:
        return [REFUSED, BEYOND_BOUNDS]
    try:
        reader = read_pattern(pattern)
    except Fault as fault:
        return told_fault(FIRST, fault)
    spans = found_spans(all_ends(reader.forms, subject)[-1])
    return [ANSWERED] + told_spans(spans_between(spans, len(subject)))


def replace(pattern, subject, by):
    """Answers the subject's bytes with each piece found replaced by what by tells."""
    if len(pattern) > LONGEST or len(subject) > LONGEST or len(by) > LONGEST:
        return [REFUSED, BEYOND_BOUNDS]
    try:
        reader = read_pattern(pattern)
        items = read_by(by)
    except Fault as fault:
        return told_fault(FIRST, fault)
    ends_of = all_ends(reader.forms, subject)
    pieces = found_spans(ends_of[-1])
    between = spans_between(pieces, len(subject))
    told = within(subject, between[0])
    for piece, behind in zip(pieces, between[1:]):
        told.extend(filled_in(items, subject, piece, group_places(reader.forms, ends_of, piece)))
        told.extend(within(subject, behind))
    return [ANSWERED, len(told)] + told


def quote(subject):
    """Answers a pattern that fits just the subject."""
    if len(subject) > LONGEST:
        return [REFUSED, BEYOND_BOUNDS]
    told = quoted(subject)
    return [ANSWERED, len(told)] + told


def table(pattern):
    """Answers the pattern's table."""
    if len(pattern) > LONGEST:
        return [REFUSED, BEYOND_BOUNDS]
    return answer_by_table(pattern, told_table)


def differ(pattern, other):
    """Answers the least word that just one of the patterns fits."""
    if len(pattern) > LONGEST or len(other) > LONGEST:
        return [REFUSED, BEYOND_BOUNDS]
    try:
        first = read_pattern(pattern)
    except Fault as fault:
        return told_fault(FIRST, fault)
    try:
        second = read_pattern(other)
    except Fault as fault:
        return told_fault(SECOND, fault)
    try:
        made = pattern_tables([first.forms, second.forms])
    except HasPlaces:
        return [REFUSED, WITH_PLACES]
    except TooMany:
        return [REFUSED, TOO_MANY]
    word = least_difference(made[0], made[1])
    if word is None:
        return [REFUSED, NO_DIFFERENCE]
    return [ANSWERED, len(word)] + word


def count(length, pattern):
    """Answers how many words of the length the pattern fits."""
    if len(pattern) > LONGEST or length > LONGEST:
        return [REFUSED, BEYOND_BOUNDS]
    return answer_by_table(pattern, lambda made: [number_of_words(made, length)])


def answer_by_table(pattern, tell):
    """Answers what tell tells of the pattern's table."""
    try:
        made = pattern_tables([read_pattern(pattern).forms])
    except Fault as fault:
        return told_fault(FIRST, fault)
    except HasPlaces:
        return [REFUSED, WITH_PLACES]
    except TooMany:
        return [REFUSED, TOO_MANY]
    return [ANSWERED] + tell(made[0])


def told_spans(spans):
    """How many spans there are, then their numbers."""
    numbers = [len(spans)]
    for span in spans:
        numbers.extend(span)
    return numbers


def told_places(places):
    """How many groups there are, then for each whether it has a place, and the place's numbers."""
    numbers = [len(places)]
    for place in places:
        if place is None:
            numbers.append(NO_PLACE)
        else:
            numbers.append(PLACE)
            numbers.extend(place)
    return numbers


def told_table(made):
    """How many states and classes, of each byte its class, and of each state all about it."""
    numbers = [len(made.ends), len(made.steps[0])] + made.classes
    for end, row in zip(made.ends, made.steps):
        numbers.append(END_STATE if end else NO_END)
        numbers.extend(row)
    return numbers


def told_fault(which, fault):
    """The refusal of the first or the second pattern, or of by, which has a fault."""
    return [REFUSED, FAULTY, which, fault.rule, fault.place]
