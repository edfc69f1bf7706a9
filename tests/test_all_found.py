import unittest

from tests.helper import everywhere, found_pieces


class AllFound(unittest.TestCase):
    def check(self, pattern, subject, *spans):
        self.assertEqual(everywhere(pattern, subject), found_pieces(*spans), (pattern, subject))

    def test_the_example(self):
        self.assertEqual(everywhere("x*", "axxb"), [0, 3, 0, 0, 1, 3, 4, 4])

    def test_none(self):
        self.assertEqual(everywhere("c", "abab"), [0, 0])
        self.check("a", "")
        self.check("a&b", "ab")
        self.check("\\b", "")
        self.check("(a)(b)", "ba")

    def test_pieces_that_are_not_empty(self):
        self.check("ab", "ababab", (0, 2), (2, 4), (4, 6))
        self.check("a", "aba", (0, 1), (2, 3))
        self.check("aa", "aaaaa", (0, 2), (2, 4))
        self.check("aba", "ababa", (0, 3))
        self.check("a+", "aabaaa", (0, 2), (3, 6))
        self.check("a|ab|b", "abb", (0, 2), (2, 3))
        self.check("(a)(b)?", "aab", (0, 1), (1, 3))
        self.check(".*", "ab\ncd", (0, 2), (3, 5))

    def test_no_empty_piece_just_behind_another(self):
        self.check("a*", "aa", (0, 2))
        self.check("a*", "aab", (0, 2), (3, 3))
        self.check("a*", "aabb", (0, 2), (3, 3), (4, 4))
        self.check("a*", "baab", (0, 0), (1, 3), (4, 4))
        self.check("a?", "aab", (0, 1), (1, 2), (3, 3))
        self.check("a|", "ba", (0, 0), (1, 2))
        self.check("|a", "aa", (0, 1), (1, 2))
        self.check("~(:.*b.*)", "aabaa", (0, 2), (3, 5))

    def test_one_that_is_not_empty_just_behind_an_empty_one(self):
        self.check("^|a", "aa", (0, 1), (1, 2))
        self.check("^|ab|\\b", "ab", (0, 2))
        self.check("x*", "ax", (0, 0), (1, 2))
        self.check("\\b|b.", "a bc", (0, 0), (1, 1), (2, 4))

    def test_empty_pieces_one_behind_another(self):
        self.check("", "abc", (0, 0), (1, 1), (2, 2), (3, 3))
        self.check("", "", (0, 0))
        self.check("a*", "bb", (0, 0), (1, 1), (2, 2))
        self.check("()", "a", (0, 0), (1, 1))
        self.check("\\B", "abc", (1, 1), (2, 2))
        self.check("\\b", "ab cd", (0, 0), (2, 2), (3, 3), (5, 5))

    def test_an_empty_piece_at_the_end_alone(self):
        self.check("$", "abc", (3, 3))
        self.check("c*$", "abc", (2, 3))
        self.check("$|b", "abc", (1, 2), (3, 3))
        self.check("c|$", "abc", (2, 3))
        self.check("$", "", (0, 0))

    def test_the_beginning_is_the_subjects_alone(self):
        self.check("^a", "aaa", (0, 1))
        self.check("^a*", "aab", (0, 2))
        self.check("^", "aab", (0, 0))
        self.check("\\ba", "aaa a", (0, 1), (4, 5))

    def test_subjects_of_200_bytes(self):
        every = [(place, place) for place in range(201)]
        self.check("", "a" * 200, *every)
        self.check("b*", "a" * 200, *every)
        self.check("(b){0}", "a" * 200, *every)
        self.check("a", "a" * 200, *((place, place + 1) for place in range(200)))
        self.check("a*", "a" * 200, (0, 200))
        self.check("a{0,3}", "a" * 200, *((place, min(place + 3, 200)) for place in range(0, 200, 3)))
        self.check("a{1,100}", "a" * 200, (0, 100), (100, 200))
        self.check("a*", "ab" * 100, *((place, place + 1) for place in range(0, 200, 2)), (200, 200))

    def test_all_found_lie_apart_in_order(self):
        for pattern in ("a*", "(a|b)?", "\\b.?", "~(:a)", "b{0,2}", ".&~b|", "^|$|a"):
            for subject in ("", "a", "abba", "bb a\nab", "aaabbb" * 9):
                answer = everywhere(pattern, subject)
                behind = -1
                for i, j in zip(answer[2::2], answer[3::2]):
                    self.assertLessEqual(i, j)
                    self.assertLess(behind, i if i == j else j)
                    self.assertLessEqual(max(behind, 0), i)
                    behind = j
                self.assertEqual(len(answer), 2 + 2 * answer[1])


if __name__ == "__main__":
    unittest.main()
