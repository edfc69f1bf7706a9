"""The forms that a pattern is made of."""

BYTE = "byte"
BEGIN = "begin"
END = "end"
EDGE = "edge"
NO_EDGE = "no edge"
ROW = "row"
EITHER = "either"
BOTH = "both"
TURNED = "turned"
COUNTED = "counted"
GROUP = "group"


class Form:
    """One form of a pattern.

    A pattern is kept as a flat list of forms, so that however deep it is, a loop
    goes through it. The parts are places in that list, all ahead of the form's own.
    What is told besides: of BYTE a list of 256 truths, whether each byte is one;
    of COUNTED the least and the most (None: no most); of GROUP its number; of all
    others None.
    """

    def __init__(self, kind, parts, told):
        self.kind = kind
        self.parts = parts
        self.told = told
