"""Reads a pattern into its forms, from the left, up to its first fault."""

from patternmeans.forms import BEGIN, BOTH, BYTE, COUNTED, EDGE, EITHER, END, GROUP, NO_EDGE, ROW, TURNED, Form

SPECIALS = "\\|&~*+?{}.^$()[]-:"
NOT_PLAIN = "\\|&~*+?{}.^$()[]"
NOT_PLAIN_IN_SET = "]-^"
NOT_ATOMS = "~|&)"

CANNOT_STAND = 1
WRONG_NUMBER = 2
WRONG_ITEM = 3
WRONG_GROUP = 4

MOST_GROUPS = 32
MOST_TIMES = 100

# No byte is this number, so it equals none that a pattern may have.
PATTERN_ENDED = 256


class Fault(Exception):
    """What keeps a list of bytes from being read: the broken rule, and the place."""

    def __init__(self, rule, place):
        self.rule = rule
        self.place = place


def among(byte, signs):
    """Whether the byte is one of these signs."""
    return byte in [ord(sign) for sign in signs]


def is_printed(byte):
    """Whether a pattern may hold this byte at all."""
    return 32 <= byte <= 126


def is_digit(byte):
    """Whether the byte is a digit of a number."""
    return ord("0") <= byte <= ord("9")


class Level:
    """What is read so far of the pattern within one pair of brackets, or of the whole."""

    def __init__(self, shut, groups, group):
        self.rows = []
        self.parts = []
        self.pieces = []
        self.turned = False
        # Shut: a ~ or an & further out forbids groups here.
        self.shut = shut
        self.groups_before_part = groups
        # The number of the group whose bracket this is, or None.
        self.group = group

    def bars_groups(self):
        """Whether no group may stand where the level is read to."""
        return self.shut or self.turned or len(self.parts) > 0


class Reader:
    """A pattern, how far it is read, and the forms and groups found so far."""

    def __init__(self, pattern):
        self.pattern = pattern
        self.place = 0
        self.forms = []
        self.groups = 0
        self.levels = [Level(False, 0, None)]

    def now(self):
        """The byte at the place, or PATTERN_ENDED."""
        if self.place < len(self.pattern):
            return self.pattern[self.place]
        return PATTERN_ENDED

    def passes(self, sign):
        """Whether this sign stands here; it is gone past if so."""
        if self.now() == ord(sign):
            self.place += 1
            return True
        return False

    def need(self, sign):
        """Goes past this sign, the only one that can stand here."""
        if not self.passes(sign):
            raise Fault(CANNOT_STAND, self.place)

    def keep(self, kind, parts, told):
        """Keeps a form, and gives back its place among the forms."""
        self.forms.append(Form(kind, parts, told))
        return len(self.forms) - 1

    def keep_joined(self, kind, parts):
        """Like keep, but what is alone needs no form around it."""
        if len(parts) == 1:
            return parts[0]
        return self.keep(kind, parts, None)

    def read_whole(self):
        """Reads the pattern to its end."""
        while self.place < len(self.pattern):
            self.read_step()
        if len(self.levels) > 1 or self.levels[0].turned:
            raise Fault(CANNOT_STAND, self.place)
        self.end_level(self.levels[0])

    def read_step(self):
        """Reads one sign that joins or encloses pieces, or one atom with what follows it."""
        level = self.levels[-1]
        if self.now() == ord("("):
            self.open_bracket()
        elif level.turned or not among(self.now(), NOT_ATOMS):
            self.end_piece(self.read_atom())
        elif self.passes("~"):
            level.turned = True
        elif self.passes("|"):
            self.end_row(level)
        elif self.now() == ord("&"):
            self.pass_both(level)
        else:
            self.close_bracket()

    def open_bracket(self):
        """Goes into a bracket, which is a group if no : follows."""
        bracket = self.place
        barred = self.levels[-1].bars_groups()
        self.place += 1
        group = None
        if not self.passes(":"):
            if barred or self.groups == MOST_GROUPS:
                raise Fault(WRONG_GROUP, bracket)
            self.groups += 1
            group = self.groups
        self.levels.append(Level(barred, self.groups, group))

    def close_bracket(self):
        """Comes out of a bracket: what was within is an atom of what is around it."""
        if len(self.levels) == 1:
            raise Fault(CANNOT_STAND, self.place)
        self.place += 1
        level = self.levels.pop()
        within = self.end_level(level)
        if level.group is not None:
            within = self.keep(GROUP, [within], level.group)
        self.end_piece(within)

    def pass_both(self, level):
        """Goes past an &, which no part with a group may have behind it."""
        if self.groups > level.groups_before_part:
            raise Fault(WRONG_GROUP, self.place)
        self.place += 1
        self.end_part(level)

    def end_part(self, level):
        """Ends the part of the level that is being read."""
        level.parts.append(self.keep_joined(ROW, level.pieces))
        level.pieces = []
        level.groups_before_part = self.groups

    def end_row(self, level):
        """Ends the row of the level that is being read."""
        self.end_part(level)
        level.rows.append(self.keep_joined(BOTH, level.parts))
        level.parts = []

    def end_level(self, level):
        """Ends the level's last row, and gives back the level's form."""
        self.end_row(level)
        return self.keep_joined(EITHER, level.rows)

    def end_piece(self, atom):
        """Reads the counts behind an atom; a ~ ahead of it is for all of that."""
        level = self.levels[-1]
        piece = atom
        told = self.read_count()
        while told is not None:
            piece = self.keep(COUNTED, [piece], told)
            told = self.read_count()
        if level.turned:
            piece = self.keep(TURNED, [piece], None)
            level.turned = False
        level.pieces.append(piece)

    def read_count(self):
        """The least and the most of the count that stands here, or None if none does."""
        if self.passes("*"):
            return (0, None)
        if self.passes("+"):
            return (1, None)
        if self.passes("?"):
            return (0, 1)
        if self.passes("{"):
            return self.read_numbers()
        return None

    def read_numbers(self):
        """The least and the most that stand within { and }."""
        least = self.read_number(0)
        most = least
        if self.passes(","):
            most = None
            if self.now() != ord("}"):
                most = self.read_number(least)
        self.need("}")
        return (least, most)

    def read_number(self, least):
        """The number that stands here, which may not be below the least."""
        first = self.place
        number = 0
        while is_digit(self.now()):
            if number == 0 and self.place > first:
                raise Fault(CANNOT_STAND, self.place)
            number = number * 10 + self.now() - ord("0")
            self.place += 1
        if self.place == first:
            raise Fault(CANNOT_STAND, first)
        if number > MOST_TIMES or number < least:
            raise Fault(WRONG_NUMBER, first)
        return number

    def read_atom(self):
        """The form of the atom that stands here and isn't a bracket."""
        if self.passes("["):
            return self.keep(BYTE, [], self.read_set())
        if self.passes("^"):
            return self.keep(BEGIN, [], None)
        if self.passes("$"):
            return self.keep(END, [], None)
        if self.passes("."):
            return self.keep(BYTE, [], [byte != ord("\n") for byte in range(256)])
        if self.passes("\\"):
            return self.read_escaped_atom()
        return self.keep_byte(self.read_plain(NOT_PLAIN))

    def read_plain(self, barred):
        """The byte that stands here for itself, which may be none of the barred signs."""
        byte = self.now()
        if not is_printed(byte) or among(byte, barred):
            raise Fault(CANNOT_STAND, self.place)
        self.place += 1
        return byte

    def keep_byte(self, only):
        """Keeps the form of one byte."""
        return self.keep(BYTE, [], [byte == only for byte in range(256)])

    def read_escaped_atom(self):
        """The form of what stands behind a \\ outside sets."""
        if self.passes("b"):
            return self.keep(EDGE, [], None)
        if self.passes("B"):
            return self.keep(NO_EDGE, [], None)
        return self.keep_byte(self.read_escaped())

    def read_escaped(self):
        """The byte that is told behind a \\."""
        if self.passes("n"):
            return ord("\n")
        if self.passes("t"):
            return ord("\t")
        if self.passes("x"):
            upper = self.read_hex()
            return 16 * upper + self.read_hex()
        byte = self.now()
        if not among(byte, SPECIALS):
            raise Fault(CANNOT_STAND, self.place)
        self.place += 1
        return byte

    def read_hex(self):
        """The value of the hex digit that stands here."""
        byte = self.now()
        for first, last, value in (("0", "9", 0), ("A", "F", 10), ("a", "f", 10)):
            if ord(first) <= byte <= ord(last):
                self.place += 1
                return value + byte - ord(first)
        raise Fault(CANNOT_STAND, self.place)

    def read_set(self):
        """Of each byte whether it is one of the set's, from behind its [ on."""
        turned = self.passes("^")
        members = [False] * 256
        self.read_item(members)
        while not self.passes("]"):
            self.read_item(members)
        return [member != turned for member in members]

    def read_item(self, members):
        """Puts the bytes of the item that stands here among the members."""
        first = self.read_set_byte()
        last = first
        if self.passes("-"):
            place = self.place
            last = self.read_set_byte()
            if last < first:
                raise Fault(WRONG_ITEM, place)
        for byte in range(first, last + 1):
            members[byte] = True

    def read_set_byte(self):
        """The byte that stands here within a set."""
        if self.passes("\\"):
            return self.read_escaped()
        return self.read_plain(NOT_PLAIN_IN_SET)


def read_pattern(pattern):
    """The reader that has read the pattern: its forms, the whole one last, and its groups."""
    reader = Reader(pattern)
    reader.read_whole()
    return reader
