import random
import unittest

from tests.helper import (
    Meant, cut, everywhere, found, found_piece, found_pieces, judged, pieces, replaced, replaced_by,
)

ATOMS = [
    ("a", ("bytes", b"a")), ("b", ("bytes", b"b")), (" ", ("bytes", b" ")), ("[ab]", ("bytes", b"ab")),
    ("[^a]", ("bytes", b"b \n")), (".", ("bytes", b"ab ")), ("\\n", ("bytes", b"\n")), ("\\x61", ("bytes", b"a")),
    ("^", ("begin",)), ("$", ("end",)), ("\\b", ("edge",)), ("\\B", ("no edge",)),
]
COUNTS = [
    ("*", 0, None), ("+", 1, None), ("?", 0, 1), ("{0}", 0, 0), ("{2}", 2, 2), ("{3}", 3, 3), ("{5}", 5, 5),
    ("{0,}", 0, None), ("{2,}", 2, None), ("{1,2}", 1, 2), ("{2,4}", 2, 4), ("{0,3}", 0, 3), ("{1,6}", 1, 6),
]
BYS = [b"$0", b"", b"-", b"<$1>", b"$2$1$$", b"[$0:$1,$3]", b"$9a$$1$1"]
SUBJECTS = [b"", b"a", b"ab", b"ba a", b"aab\nb", b"abaab", b"aaaaaa"]


class Drawn:
    """Patterns with their trees, drawn by a fixed seed."""

    def __init__(self, seed):
        self.draw = random.Random(seed)
        self.groups = 0

    def drawn(self, depth, fewest, longest):
        """A pattern with no fewer groups and no more bytes, its tree, and how many groups it has."""
        while True:
            self.groups = 0
            text, tree = self.pattern(depth, True)
            if len(text) <= longest and self.groups >= fewest:
                return text, tree, self.groups

    def pattern(self, depth, open_to_groups):
        rows = [self.row(depth, open_to_groups) for times in range(self.draw.choice((1, 1, 1, 2, 3)))]
        return "|".join(text for text, tree in rows), ("either", tuple(tree for text, tree in rows))

    def row(self, depth, open_to_groups):
        how_many = self.draw.choice((1, 1, 1, 1, 2, 3))
        if how_many == 1:
            return self.part(depth, open_to_groups)
        parts = [self.part(depth, False) for times in range(how_many)]
        return "&".join(text for text, tree in parts), ("both", tuple(tree for text, tree in parts))

    def part(self, depth, open_to_groups):
        row = [self.piece(depth, open_to_groups) for times in range(self.draw.choice((0, 1, 1, 1, 2, 2, 3)))]
        return "".join(text for text, tree in row), ("row", tuple(tree for text, tree in row))

    def piece(self, depth, open_to_groups):
        turned = self.draw.random() < 0.2
        text, tree = self.atom(depth, open_to_groups and not turned)
        for times in range(self.draw.choice((0, 0, 0, 1, 1, 2))):
            sign, least, most = self.draw.choice(COUNTS)
            text, tree = text + sign, ("counted", tree, least, most)
        if turned:
            text, tree = "~" + text, ("turned", tree)
        return text, tree

    def atom(self, depth, open_to_groups):
        if depth == 0 or self.draw.random() < 0.5:
            return self.draw.choice(ATOMS)
        if not open_to_groups or self.draw.random() < 0.3:
            text, tree = self.pattern(depth - 1, open_to_groups)
            return "(:" + text + ")", tree
        self.groups += 1
        number = self.groups
        text, tree = self.pattern(depth - 1, True)
        return "(" + text + ")", ("group", tree, number)


class Meaning(unittest.TestCase):
    def test_patterns_fit_what_the_words_say(self):
        drawn = Drawn(2)
        for tried in range(600):
            text, tree, groups = drawn.drawn(tried % 3, 0, 40)
            subject = SUBJECTS[tried % len(SUBJECTS)]
            self.assertEqual(pieces(text, subject), Meant(tree, subject).pieces(), (text, subject))
            self.assertEqual(judged(text), [0, groups], text)

    def test_pieces_and_groups_are_found_as_the_words_say(self):
        drawn = Drawn(3)
        for tried in range(900):
            text, tree, groups = drawn.drawn(1 + tried % 3, tried % 4, 50)
            subject = SUBJECTS[tried % len(SUBJECTS)]
            meant = Meant(tree, subject)
            for start in range(len(subject) + 1):
                piece = meant.found(start)
                answer = [9, 5]
                if piece is not None:
                    places = meant.places(*piece)
                    answer = found_piece(piece, *(places.get(number + 1) for number in range(groups)))
                self.assertEqual(found(text, subject, start), answer, (text, subject, start))
            self.assertEqual(everywhere(text, subject), found_pieces(*meant.all_found()), (text, subject))

    def test_subjects_are_cut_and_changed_as_the_words_say(self):
        drawn = Drawn(4)
        for tried in range(600):
            text, tree, groups = drawn.drawn(1 + tried % 3, tried % 4, 50)
            subject = SUBJECTS[tried % 11 % len(SUBJECTS)]
            meant = Meant(tree, subject)
            self.assertEqual(cut(text, subject), found_pieces(*meant.between()), (text, subject))
            self.assertEqual(replaced(text, subject, b"$0"), replaced_by(subject), (text, subject))
            by = BYS[tried % len(BYS)]
            self.assertEqual(replaced(text, subject, by), replaced_by(meant.replaced(by)), (text, subject, by))


if __name__ == "__main__":
    unittest.main()
