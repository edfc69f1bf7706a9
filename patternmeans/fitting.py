"""Which pieces of a subject a pattern fits.

What a form fits is told by a list: for each place of the subject a whole number,
whose bit j is 1 if the form fits from that place to j.
"""

from patternmeans.forms import BEGIN, BOTH, BYTE, COUNTED, EDGE, EITHER, END, GROUP, ROW, TURNED


def all_ends(forms, subject):
    """For each form of a pattern what it fits; the last one is the whole pattern."""
    ends_of = []
    for form in forms:
        ends_of.append(form_ends(form, ends_of, subject))
    return ends_of


def fits_piece(ends, start, to):
    """Whether what fits so fits from start to to."""
    return ends[start] >> to & 1 == 1


def form_ends(form, ends_of, subject):
    """What the form fits, from what the forms ahead of it fit."""
    parts = [ends_of[part] for part in form.parts]
    places = len(subject) + 1
    if form.kind == BYTE:
        return byte_ends(form.told, subject)
    if form.kind == ROW:
        return row_ends(parts, places)
    if form.kind == EITHER:
        return either_ends(parts)
    if form.kind == BOTH:
        return both_ends(parts)
    if form.kind == TURNED:
        return turned_ends(parts[0])
    if form.kind == COUNTED:
        return counted_ends(parts[0], form.told[0], form.told[1])
    if form.kind == GROUP:
        return parts[0]
    return [1 << place if holds_at(form.kind, place, subject) else 0 for place in range(places)]


def byte_ends(members, subject):
    """What one byte out of the members fits."""
    ends = [1 << (place + 1) if members[byte] else 0 for place, byte in enumerate(subject)]
    return ends + [0]


def holds_at(kind, place, subject):
    """Whether the place is one that a form of this kind asks for."""
    if kind == BEGIN:
        return place == 0
    if kind == END:
        return place == len(subject)
    before = place > 0 and is_word_byte(subject[place - 1])
    behind = place < len(subject) and is_word_byte(subject[place])
    return (before != behind) == (kind == EDGE)


def is_word_byte(byte):
    """Whether the byte is a letter, a digit or _."""
    if ord("A") <= byte <= ord("Z") or ord("a") <= byte <= ord("z"):
        return True
    return ord("0") <= byte <= ord("9") or byte == ord("_")


def empty_ends(places):
    """What the empty row fits: at each place just the empty piece."""
    return [1 << place for place in range(places)]


def row_ends(parts, places):
    """What the parts fit one behind another."""
    ends = empty_ends(places)
    for part in parts:
        ends = one_behind_other(ends, part)
    return ends


def one_behind_other(first, second):
    """What the first and behind it the second fit."""
    return [ends_behind(middles, second) for middles in first]


def ends_behind(middles, second):
    """Where the second ends that begins at one of the middles."""
    ends = 0
    while middles > 0:
        middle = middles.bit_length() - 1
        ends |= second[middle]
        middles ^= 1 << middle
    return ends


def either_ends(parts):
    """What one of the parts fits."""
    ends = parts[0]
    for part in parts:
        ends = [one | other for one, other in zip(ends, part)]
    return ends


def both_ends(parts):
    """What all the parts fit."""
    ends = parts[0]
    for part in parts:
        ends = [one & other for one, other in zip(ends, part)]
    return ends


def turned_ends(once):
    """What it doesn't fit, of all pieces that do not end before they begin."""
    beyond = 1 << len(once)
    return [(beyond - (1 << place)) & ~ends for place, ends in enumerate(once)]


def counted_ends(once, least, most):
    """What least to most of it fit one behind another, or least and more if most is None."""
    ends = repeated_ends(once, least)
    if most is None:
        return one_behind_other(ends, any_number_ends(once))
    if most == least:
        return ends
    perhaps = either_ends([empty_ends(len(once)), once])
    return one_behind_other(ends, repeated_ends(perhaps, most - least))


def repeated_ends(once, times):
    """What just so many of it fit one behind another, by doubling."""
    ends = empty_ends(len(once))
    doubled = once
    while times > 0:
        if times % 2 == 1:
            ends = one_behind_other(ends, doubled)
        times = times // 2
        if times > 0:
            doubled = one_behind_other(doubled, doubled)
    return ends


def any_number_ends(once):
    """What any number of it, none too, fit one behind another."""
    ends = [0] * len(once)
    for place in range(len(once) - 1, -1, -1):
        reached = 1 << place
        rest = once[place] & ~reached
        while rest > 0:
            # What is reached from the nearest place holds all that is reached from
            # places within it, so those needn't be gone to.
            nearest = (rest & -rest).bit_length() - 1
            reached |= ends[nearest]
            rest &= ~reached
        ends[place] = reached
    return ends
