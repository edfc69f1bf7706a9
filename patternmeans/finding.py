"""Which pieces of a subject are found, told by what the whole pattern fits."""


def found_from(ends, start):
    """The span of the first and then longest piece from start on, or None."""
    for place in range(start, len(ends)):
        if ends[place] > 0:
            return (place, ends[place].bit_length() - 1)
    return None


def found_behind(ends, place):
    """The next span from place on that isn't empty at that place, or None."""
    span = found_from(ends, place)
    if span == (place, place):
        return found_from(ends, place + 1)
    return span


def found_spans(ends):
    """The spans of all found, in order."""
    spans = []
    span = found_from(ends, 0)
    while span is not None:
        spans.append(span)
        span = found_behind(ends, span[1])
    return spans


def spans_between(spans, length):
    """The spans that spans in order leave: before the first, between them, behind the last."""
    between = []
    place = 0
    for span in spans:
        between.append((place, span[0]))
        place = span[1]
    between.append((place, length))
    return between
