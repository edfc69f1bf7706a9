import unittest

from tests.helper import (
    Drawn, Meant, cut, everywhere, found, found_piece, found_pieces, judged, pieces, replaced, replaced_by,
)

ATOMS = [
    ("a", ("bytes", b"a")), ("b", ("bytes", b"b")), (" ", ("bytes", b" ")), ("[ab]", ("bytes", b"ab")),
    ("[^a]", ("bytes", b"b \n")), (".", ("bytes", b"ab ")), ("\\n", ("bytes", b"\n")), ("\\x61", ("bytes", b"a")),
    ("^", ("begin",)), ("$", ("end",)), ("\\b", ("edge",)), ("\\B", ("no edge",)),
]
COUNTS = [
    ("*", 0, None), ("+", 1, None), ("?", 0, 1), ("{0}", 0, 0), ("{2}", 2, 2), ("{3}", 3, 3), ("{5}", 5, 5),
    ("{0,}", 0, None), ("{2,}", 2, None), ("{1,2}", 1, 2), ("{2,4}", 2, 4), ("{0,3}", 0, 3), ("{1,6}", 1, 6),
]
BYS = [b"$0", b"", b"-", b"<$1>", b"$2$1$$", b"[$0:$1,$3]", b"$9a$$1$1"]
SUBJECTS = [b"", b"a", b"ab", b"ba a", b"aab\nb", b"abaab", b"aaaaaa"]


class Meaning(unittest.TestCase):
    def test_patterns_fit_what_the_words_say(self):
        drawn = Drawn(2, ATOMS, COUNTS)
        for tried in range(600):
            text, tree, groups = drawn.drawn(tried % 3, 0, 40)
            subject = SUBJECTS[tried % len(SUBJECTS)]
            self.assertEqual(pieces(text, subject), Meant(tree, subject).pieces(), (text, subject))
            self.assertEqual(judged(text), [0, groups], text)

    def test_pieces_and_groups_are_found_as_the_words_say(self):
        drawn = Drawn(3, ATOMS, COUNTS)
        for tried in range(900):
            text, tree, groups = drawn.drawn(1 + tried % 3, tried % 4, 50)
            subject = SUBJECTS[tried % len(SUBJECTS)]
            meant = Meant(tree, subject)
            for start in range(len(subject) + 1):
                piece = meant.found(start)
                answer = [9, 5]
                if piece is not None:
                    places = meant.places(*piece)
                    answer = found_piece(piece, *(places.get(number + 1) for number in range(groups)))
                self.assertEqual(found(text, subject, start), answer, (text, subject, start))
            self.assertEqual(everywhere(text, subject), found_pieces(*meant.all_found()), (text, subject))

    def test_subjects_are_cut_and_changed_as_the_words_say(self):
        drawn = Drawn(4, ATOMS, COUNTS)
        for tried in range(600):
            text, tree, groups = drawn.drawn(1 + tried % 3, tried % 4, 50)
            subject = SUBJECTS[tried % 11 % len(SUBJECTS)]
            meant = Meant(tree, subject)
            self.assertEqual(cut(text, subject), found_pieces(*meant.between()), (text, subject))
            self.assertEqual(replaced(text, subject, b"$0"), replaced_by(subject), (text, subject))
            by = BYS[tried % len(BYS)]
            self.assertEqual(replaced(text, subject, by), replaced_by(meant.replaced(by)), (text, subject, by))


if __name__ == "__main__":
    unittest.main()
