import unittest

from tests.helper import cut, everywhere, fault, found_pieces


class Split(unittest.TestCase):
    def check(self, pattern, subject, *spans):
        self.assertEqual(cut(pattern, subject), found_pieces(*spans), (pattern, subject))

    def test_the_example(self):
        self.assertEqual(cut("x*", "axxb"), [0, 4, 0, 0, 0, 1, 3, 4, 4, 4])

    def test_nothing_found(self):
        self.assertEqual(cut("c", "abab"), [0, 1, 0, 4])
        self.check("ab", "ba", (0, 2))
        self.check("a&b", "ab", (0, 2))
        self.check("(a)(b)", "ba", (0, 2))
        self.check("x", "a" * 200, (0, 200))

    def test_the_empty_subject(self):
        self.assertEqual(cut("a", ""), [0, 1, 0, 0])
        self.assertEqual(cut("", ""), [0, 2, 0, 0, 0, 0])
        self.check("\\b", "", (0, 0))
        self.check("a*", "", (0, 0), (0, 0))
        self.check("^$", "", (0, 0), (0, 0))

    def test_pieces_in_the_midst(self):
        self.check(",", "a,bc,d", (0, 1), (2, 4), (5, 6))
        self.check(", *", "a,  b", (0, 1), (4, 5))
        self.check("aa", "baaab", (0, 1), (3, 5))
        self.check("(b)(c)?", "abacada", (0, 1), (2, 7))
        self.check("[^a]+", "abacca", (0, 1), (2, 3), (5, 6))

    def test_pieces_at_the_beginning_and_the_end(self):
        self.check("a", "ab", (0, 0), (1, 2))
        self.check("b", "ab", (0, 1), (2, 2))
        self.check("a", "aba", (0, 0), (1, 2), (3, 3))
        self.check("a*", "aaa", (0, 0), (3, 3))
        self.check("abc", "abc", (0, 0), (3, 3))
        self.check("^a", "aaa", (0, 0), (1, 3))
        self.check("a$", "aaa", (0, 2), (3, 3))

    def test_pieces_side_by_side(self):
        self.check("a", "aa", (0, 0), (1, 1), (2, 2))
        self.check("a", "baab", (0, 1), (2, 2), (3, 4))
        self.check("a|b|ab", "abba", (0, 0), (2, 2), (3, 3), (4, 4))
        self.check("a{2}", "aaaaa", (0, 0), (2, 2), (4, 5))

    def test_empty_pieces(self):
        self.check("", "ab", (0, 0), (0, 1), (1, 2), (2, 2))
        self.check("^", "ab", (0, 0), (0, 2))
        self.check("$", "ab", (0, 2), (2, 2))
        self.check("\\b", "ab c", (0, 0), (0, 2), (2, 3), (3, 4), (4, 4))
        self.check("\\B", "abc", (0, 1), (1, 2), (2, 3))
        self.check("a*", "baab", (0, 0), (0, 1), (3, 4), (4, 4))
        self.check("a?", "aab", (0, 0), (1, 1), (2, 3), (3, 3))
        self.check("^|ab", "abab", (0, 0), (2, 2), (4, 4))

    def test_any_bytes(self):
        self.check("\\n", [0, 10, 255, 10], (0, 1), (2, 3), (4, 4))
        self.check("[\\x80-\\xff]", [1, 128, 127, 255], (0, 1), (2, 3), (4, 4))

    def test_subjects_of_200_bytes(self):
        each = [(place, place + 1) for place in range(200)]
        self.check("", "a" * 200, (0, 0), *each, (200, 200))
        self.check("a", "a" * 200, *((place, place) for place in range(201)))
        self.check("a{1,100}", "a" * 200, (0, 0), (100, 100), (200, 200))
        self.check("b", "ab" * 100, *((place, place + 1) for place in range(0, 200, 2)), (200, 200))

    def test_no_pattern(self):
        self.assertEqual(cut("a{2,1}", "aaa"), fault(2, 4))
        self.assertEqual(cut("(a", ""), fault(1, 2))

    def test_what_is_between_and_all_found_make_the_subject(self):
        for pattern in ("a*", "(a|b)?", "\\b.?", "~(:a)", "b{0,2}", ".&~b|", "^|$|a", "c", "", "(a)(b)"):
            for subject in ("", "a", "abba", "bb a\nab", "aaabbb" * 9):
                between = cut(pattern, subject)
                found = everywhere(pattern, subject)
                self.assertEqual(between[:2], [0, found[1] + 1])
                self.assertEqual(between[2:3] + found[2:] + between[-1:], sorted(found[2:] + [0, len(subject)]))
                # Each span between begins where a piece ends, and ends where the next one begins.
                self.assertEqual(between[3:-1], found[2:])


if __name__ == "__main__":
    unittest.main()
