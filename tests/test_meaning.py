import random
import unittest

from tests.helper import meant, pieces

ATOMS = [
    ("a", ("bytes", b"a")), ("b", ("bytes", b"b")), (" ", ("bytes", b" ")), ("[ab]", ("bytes", b"ab")),
    ("[^a]", ("bytes", b"b \n")), (".", ("bytes", b"ab ")), ("\\n", ("bytes", b"\n")), ("\\x61", ("bytes", b"a")),
    ("^", ("begin",)), ("$", ("end",)), ("\\b", ("edge",)), ("\\B", ("no edge",)),
]
COUNTS = [
    ("*", 0, None), ("+", 1, None), ("?", 0, 1), ("{0}", 0, 0), ("{2}", 2, 2), ("{3}", 3, 3), ("{5}", 5, 5),
    ("{0,}", 0, None), ("{2,}", 2, None), ("{1,2}", 1, 2), ("{2,4}", 2, 4), ("{0,3}", 0, 3), ("{1,6}", 1, 6),
]
SUBJECTS = [b"", b"a", b"ab", b"ba a", b"aab\nb", b"abaab", b"aaaaaa"]


class Drawn:
    """Patterns with their trees, drawn by a fixed seed."""

    def __init__(self, seed):
        self.draw = random.Random(seed)

    def pattern(self, depth):
        rows = [self.row(depth) for times in range(self.draw.choice((1, 1, 1, 2, 3)))]
        return "|".join(text for text, tree in rows), ("either", tuple(tree for text, tree in rows))

    def row(self, depth):
        parts = [self.part(depth) for times in range(self.draw.choice((1, 1, 1, 1, 2, 3)))]
        return "&".join(text for text, tree in parts), ("both", tuple(tree for text, tree in parts))

    def part(self, depth):
        row = [self.piece(depth) for times in range(self.draw.choice((0, 1, 1, 1, 2, 2, 3)))]
        return "".join(text for text, tree in row), ("row", tuple(tree for text, tree in row))

    def piece(self, depth):
        text, tree = self.draw.choice(ATOMS)
        if depth > 0 and self.draw.random() < 0.5:
            text, tree = self.pattern(depth - 1)
            text = "(:" + text + ")"
        for times in range(self.draw.choice((0, 0, 0, 1, 1, 2))):
            sign, least, most = self.draw.choice(COUNTS)
            text, tree = text + sign, ("counted", tree, least, most)
        if self.draw.random() < 0.2:
            text, tree = "~" + text, ("turned", tree)
        return text, tree


class Meaning(unittest.TestCase):
    def test_patterns_fit_what_the_words_say(self):
        drawn = Drawn(2)
        tried = 0
        while tried < 600:
            text, tree = drawn.pattern(tried % 3)
            if len(text) <= 40:
                tried += 1
                subject = SUBJECTS[tried % len(SUBJECTS)]
                self.assertEqual(pieces(text, subject), meant(tree, subject), (text, subject))


if __name__ == "__main__":
    unittest.main()
