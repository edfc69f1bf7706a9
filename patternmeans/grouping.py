"""Where the groups of a pattern lie in a piece that it fits, by the one way.

A form comes behind its parts in the list of forms, and is a part of one other at most.
So the forms are gone through from the last one, which fits the whole piece, back to the
first: each hands on to its parts the pieces that they fit on the way, in order.
"""

from patternmeans.fitting import fits_piece
from patternmeans.forms import COUNTED, EITHER, GROUP, ROW


def group_places(forms, ends_of, span):
    """Of each group in order the span where it fits last on the way, or None."""
    spans_of = [[] for form in forms]
    spans_of[-1].append(span)
    places = [None for form in forms if form.kind == GROUP]
    for own in range(len(forms) - 1, -1, -1):
        spans = list(spans_of[own])
        for within in spans:
            hand_on(forms[own], ends_of, within, spans_of)
        if forms[own].kind == GROUP and len(spans) > 0:
            places[forms[own].told - 1] = spans[-1]
    return places


def hand_on(form, ends_of, span, spans_of):
    """Puts the spans of the form's parts, where the form fits the span, to the parts' own."""
    for part, taken in taken_spans(form, ends_of, span):
        # The same piece again gives all groups the same places again. Told once only,
        # the empty piece needn't be gone through a hundred times a hundred times.
        if len(spans_of[part]) == 0 or spans_of[part][-1] != taken:
            spans_of[part].append(taken)


def taken_spans(form, ends_of, span):
    """The parts with the spans that they fit on the way, in order, where groups can be."""
    if form.kind == ROW:
        spans = row_spans([ends_of[part] for part in form.parts], span[0], span[1])
        return list(zip(form.parts, spans))
    if form.kind == EITHER:
        fit = [part for part in form.parts if fits_piece(ends_of[part], span[0], span[1])]
        return [(fit[0], span)]
    if form.kind == COUNTED:
        part = form.parts[0]
        return [(part, taken) for taken in counted_spans(ends_of[part], form.told, span)]
    if form.kind == GROUP:
        return [(form.parts[0], span)]
    return []


def row_spans(parts, start, to):
    """The spans of the parts of a row, each as long as can be so that the others fit the rest."""
    rests = [1 << to]
    for number in range(len(parts) - 1, 0, -1):
        rests.append(places_ahead(parts[number], rests[-1], start, to))
    spans = []
    for part in parts:
        end = longest_end(part[start], rests.pop())
        spans.append((start, end))
        start = end
    return spans


def counted_spans(once, told, span):
    """The spans of what is counted, but for those that are the last one once more."""
    start = span[0]
    to = span[1]
    rests = counted_rests(once, told, span)
    spans = []
    while start < to:
        end = longest_end(once[start], rests[min(len(spans) + 1, len(rests) - 1)])
        spans.append((start, end))
        start = end
    if len(spans) < told[0]:
        spans.append((to, to))
    return spans


def counted_rests(once, told, span):
    """For each number of those already taken the places from which the rest fits to the end.

    Where there is no most, the last one is for all higher numbers, too.
    """
    start = span[0]
    to = span[1]
    least = told[0]
    most = told[1]
    if most is None:
        most = least
        rests = [places_ahead_of_any(once, start, to)]
    else:
        rests = [1 << to]
    for taken in range(most - 1, -1, -1):
        rest = places_ahead(once, rests[-1], start, to)
        if taken >= least:
            rest |= 1 << to
        rests.append(rest)
    rests.reverse()
    return rests


def places_ahead(ends, rest, start, to):
    """The places within start and to from which an end is one of the rest's places."""
    ahead = 0
    for place in range(start, to + 1):
        if ends[place] & rest > 0:
            ahead |= 1 << place
    return ahead


def places_ahead_of_any(once, start, to):
    """The places within start and to from which any number of it, none too, fit to the end."""
    ahead = 1 << to
    for place in range(to - 1, start - 1, -1):
        if once[place] & ahead > 0:
            ahead |= 1 << place
    return ahead


def longest_end(ends, rest):
    """The greatest of the ends that is one of the rest's places."""
    return (ends & rest).bit_length() - 1
