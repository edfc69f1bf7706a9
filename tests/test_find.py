import unittest

from tests.helper import fitted, found, found_piece, listed


class Pieces(unittest.TestCase):
    def check(self, pattern, subject, pieces):
        """The piece found from each place on; for a pattern without groups."""
        for start, piece in enumerate(pieces):
            answer = [9, 5] if piece is None else found_piece(piece)
            self.assertEqual(found(pattern, subject, start), answer, (pattern, subject, start))
        self.assertEqual(len(pieces), len(subject) + 1)

    def test_the_examples(self):
        self.assertEqual(found("(a|ab)(c|bcd)(d*)", "abcd"), [0, 0, 4, 3, 1, 0, 2, 1, 2, 3, 1, 3, 4])
        self.assertEqual(found("~(:.*b.*)", "aab"), [0, 0, 2, 0])

    def test_from_each_place_on(self):
        self.check("a", "aba", [(0, 1), (2, 3), (2, 3), None])
        self.check("ab", "abab", [(0, 2), (2, 4), (2, 4), None, None])
        self.check("aa", "aaa", [(0, 2), (1, 3), None, None])
        self.check("x*", "axxb", [(0, 0), (1, 3), (2, 3), (3, 3), (4, 4)])
        self.check("x+", "axxb", [(1, 3), (1, 3), (2, 3), None, None])
        self.check("~(:.*b.*)", "aab", [(0, 2), (1, 2), (2, 2), (3, 3)])
        self.check("..&~(:bb)", "abbb", [(0, 2), None, None, None, None])
        self.check("[a-z]+&~(:if)", "iff", [(0, 3), (1, 3), (2, 3), None])
        self.check("", "ab", [(0, 0), (1, 1), (2, 2)])
        self.check("", "", [(0, 0)])

    def test_the_first_stands_ahead_of_a_longer_one(self):
        self.check("a|bbb", "abbb", [(0, 1), (1, 4), None, None, None])
        self.check("a?", "ba", [(0, 0), (1, 2), (2, 2)])

    def test_the_longest_whatever_stands_first(self):
        self.check("a|ab|abc", "abcd", [(0, 3), None, None, None, None])
        self.check("abc|ab|a", "abxabc", [(0, 2), (3, 6), (3, 6), (3, 6), None, None, None])
        self.check("|a", "a", [(0, 1), (1, 1)])
        self.check("(:a|ab)(:c|bcd)", "abcd", [(0, 4), None, None, None, None])

    def test_places(self):
        self.check("^", "ab", [(0, 0), None, None])
        self.check("$", "ab", [(2, 2), (2, 2), (2, 2)])
        self.check("^a", "aa", [(0, 1), None, None])
        self.check("a$", "aa", [(1, 2), (1, 2), None])
        self.check("\\b", "a b", [(0, 0), (1, 1), (2, 2), (3, 3)])
        self.check("\\ba*", "aa", [(0, 2), (2, 2), (2, 2)])
        self.check("\\B", "ab", [(1, 1), (1, 1), None])
        self.check("a\\b", "aab", [None, None, None, None])

    def test_nothing_is_found(self):
        self.check("c", "ab", [None, None, None])
        self.check("a&b", "ab", [None, None, None])
        self.check("~(:.|\\n)&.", "ab", [None, None, None])
        self.check("a", "", [None])
        self.check("\\b", "", [None])
        self.check("[^\\x00-\\xff]", "ab", [None, None, None])
        self.assertEqual(found("(c)(d)", "ab"), [9, 5])
        self.assertEqual(found("(a)", "a", 1), [9, 5])

    def test_any_bytes(self):
        self.assertEqual(found("[\\x80-\\xff]+", [0, 127, 128, 255, 10]), found_piece((2, 4)))
        self.assertEqual(found(".*", [0, 255, 10, 9]), found_piece((0, 2)))
        self.assertEqual(found(".*", [0, 255, 10, 9], 2), found_piece((2, 2)))


class Groups(unittest.TestCase):
    def check(self, pattern, subject, piece, *places):
        self.assertEqual(found(pattern, subject), found_piece(piece, *places), (pattern, subject))

    def test_a_row_has_its_first_pieces_as_long_as_can_be(self):
        self.check("(a*)(a*)", "aaa", (0, 3), (0, 3), (3, 3))
        self.check("(a?)(a*)(a)", "aaa", (0, 3), (0, 1), (1, 2), (2, 3))
        self.check("(a|ab|abc)(.*)", "abcd", (0, 4), (0, 3), (3, 4))
        self.check("(.*)(ab)(.*)", "abxaby", (0, 6), (0, 3), (3, 5), (5, 6))
        self.check("(.*)b(.*)", "aba", (0, 3), (0, 1), (2, 3))
        self.check("(a*)(b|ab)", "aab", (0, 3), (0, 2), (2, 3))
        self.check("a*(a)", "aaa", (0, 3), (2, 3))

    def test_of_several_the_first_one_that_fits_the_whole(self):
        self.check("(a)|(a)", "a", (0, 1), (0, 1), None)
        self.check("(a)|(ab)", "ab", (0, 2), None, (0, 2))
        self.check("(a)|(b)|(c)", "b", (0, 1), None, (0, 1), None)
        self.check("(:(a)|(a)b|(ab))", "ab", (0, 2), None, (0, 1), None)
        self.check("(:(a*)|(:(b))|)x", "bx", (0, 2), None, (0, 1))
        self.check("(:()|(a)|())", "", (0, 0), (0, 0), None, None)
        self.check("(:a|(b))", "a", (0, 1), None)

    def test_what_stands_first_may_be_empty(self):
        self.check("(|a)(.*)", "ab", (0, 2), (0, 1), (1, 2))
        self.check("(|a)(ab)", "ab", (0, 2), (0, 0), (0, 2))
        self.check("()a()", "ba", (1, 2), (1, 1), (2, 2))

    def test_the_last_place_counts(self):
        for count in ("*", "+", "{3}", "{2,}", "{2,3}", "{0,3}", "{3,100}"):
            self.check("(a|b)" + count, "aba", (0, 3), (2, 3))
        self.check("(ab?)+", "abaab", (0, 5), (3, 5))
        self.check("(.{1,2})*", "abc", (0, 3), (2, 3))
        self.check("(.)*?", "abc", (0, 3), (2, 3))
        self.check("(:(a)|(b))*", "aab", (0, 3), (1, 2), (2, 3))
        self.check("(:(a)|(b)|(c))*", "bab", (0, 3), (1, 2), (2, 3), None)
        self.check("((a)|b)*", "ab", (0, 2), (1, 2), (0, 1))

    def test_the_one_is_as_long_as_can_be_each_time(self):
        self.check("(.{1,3})*", "abcd", (0, 4), (3, 4))
        self.check("(.{1,3}){2}", "abcd", (0, 4), (3, 4))
        self.check("(.{1,3}){3}", "abcd", (0, 4), (3, 4))
        self.check("(.{2,3})*", "abcd", (0, 4), (2, 4))
        self.check("(.{2,3}){2}", "abcdefg", (0, 6), (3, 6))
        self.check("(:(.{1,3})(.)){2}", "abcd", (0, 4), (2, 3), (3, 4))
        self.check("(a|ab|bc|c)*", "abc", (0, 3), (2, 3))
        self.check("(a*){2}b", "aab", (0, 3), (2, 2))

    def test_the_one_leaves_no_more_than_the_counts_allow(self):
        self.check("(abc|ab|cde|d|e){1,2}", "abcde", (0, 5), (2, 5))
        self.check("(abc|ab|cde|d|e){0,2}", "abcde", (0, 5), (2, 5))
        self.check("(abc|ab|cde|d|e){2}", "abcde", (0, 5), (2, 5))
        self.check("(abc|ab|cde|d|e){1,3}", "abcde", (0, 5), (4, 5))
        self.check("(abc|ab|cde|d|e)*", "abcde", (0, 5), (4, 5))
        self.check("(a|abc|b|cd){3,4}", "abcd", (0, 4), (2, 4))

    def test_one_that_fits_none_of_the_times(self):
        for pattern in ("(a)*", "(a)?", "(a){0}", "(a){0,0}", "(a){0,5}", "(a){0,}", "(:(a)){0}", "(a){0}*", "(a)*+"):
            self.check(pattern, "b", (0, 0), None)
        self.check("(a){0}b", "b", (0, 1), None)
        self.check("(a){0}a", "a", (0, 1), None)
        self.check("(a)?a", "a", (0, 1), None)
        self.check("(a)?(a)", "a", (0, 1), None, (0, 1))

    def test_none_where_the_piece_is_empty_and_none_is_needed(self):
        for pattern in ("()*", "()?", "(){0}", "(){0,9}", "(a*)*", "(a?)*", "(|b){0,2}", "(^)*", "(\\B)?"):
            self.check(pattern, "", (0, 0), None)
        self.check("(^)*a", "a", (0, 1), None)
        self.check("a(a*)*", "a", (0, 1), None)
        self.check("((a*)*)*", "", (0, 0), None, None)
        self.check("((a*)*)", "", (0, 0), (0, 0), None)

    def test_the_empty_piece_where_one_is_needed(self):
        for pattern in ("()+", "(){1}", "(){2,}", "(){3,5}", "(a*)+", "(a?){2}", "(|b){1,2}", "(^)+", "(a*){100}"):
            self.check(pattern, "", (0, 0), (0, 0))
        self.check("((a*)+)*", "", (0, 0), None, None)
        self.check("((a*)*)+", "", (0, 0), (0, 0), None)
        self.check("((a*)+)+", "", (0, 0), (0, 0), (0, 0))
        self.check("a(a*)+", "a", (0, 1), (1, 1))

    def test_no_empty_one_once_enough_are_taken(self):
        for pattern in ("(a*)*", "(a*)+", "(|a)*", "(|a)+", "(a?){1,5}", "(a|){0,5}", "(a*){1,}"):
            self.check(pattern, "a", (0, 1), (0, 1))
            self.check(pattern, "ab", (0, 1), (0, 1))
        self.check("(a*)*", "aaa", (0, 3), (0, 3))
        self.check("(a?)*", "aaa", (0, 3), (2, 3))

    def test_empty_ones_as_long_as_not_enough_are_taken(self):
        self.check("(a*){2}", "aaa", (0, 3), (3, 3))
        self.check("(a|){3}", "a", (0, 1), (1, 1))
        self.check("(a?){2,}", "aaa", (0, 3), (2, 3))
        self.check("(a?){4,}", "aaa", (0, 3), (3, 3))
        self.check("(a?){3}", "aaa", (0, 3), (2, 3))
        self.check("(:(a)|()){3}", "a", (0, 1), (0, 1), (1, 1))
        self.check("(:(a)|()){1,3}", "a", (0, 1), (0, 1), None)

    def test_an_empty_one_ahead_of_others_where_it_cannot_stand_behind(self):
        self.check("(:(^)|(a)){3}", "aa", (0, 2), (0, 0), (1, 2))
        self.check("(:(^)|(a)){2}", "aa", (0, 2), None, (1, 2))
        self.check("(:(^)|(a)){3,}", "aaa", (0, 3), None, (2, 3))
        self.check("(:(^)|(a)|(b)){4}", "ab", (0, 2), (0, 0), (0, 1), (1, 2))

    def test_counts_behind_one_another(self):
        self.check("(a){2}{2}", "aaaa", (0, 4), (3, 4))
        self.check("(a)*{2}", "aa", (0, 2), (1, 2))
        self.check("(a)?{3}", "aa", (0, 2), (1, 2))
        self.check("(a)+*", "", (0, 0), None)
        self.check("(a)*+", "", (0, 0), None)
        self.check("()+*", "", (0, 0), None)
        self.check("()+{2}", "", (0, 0), (0, 0))
        self.check("(a)*{0}", "a", (0, 0), None)
        self.check("(.){2,3}{2}", "abcde", (0, 5), (4, 5))
        self.check("(.{2,3}){2}*", "abcdefghij", (0, 10), (8, 10))

    def test_a_group_within_a_group(self):
        self.check("((a)(b))", "ab", (0, 2), (0, 2), (0, 1), (1, 2))
        self.check("((((a))))", "xa", (1, 2), (1, 2), (1, 2), (1, 2), (1, 2))
        self.check("((a)*(b)*)*", "aabab", (0, 5), (3, 5), (3, 4), (4, 5))
        self.check("((a)|(b(c)?))*", "bcba", (0, 4), (3, 4), (3, 4), (2, 3), (1, 2))
        self.check("(a(b)?)+", "aba", (0, 3), (2, 3), (1, 2))
        self.check("(:(:(a)b)c)", "abc", (0, 3), (0, 1))
        self.check("(a(:b(c)d)e)(f)", "abcdef", (0, 6), (0, 5), (2, 3), (5, 6))

    def test_a_group_that_is_the_whole_pattern(self):
        self.check("(a+)", "baa", (1, 3), (1, 3))
        self.check("()", "", (0, 0), (0, 0))
        self.check("(|)", "b", (0, 0), (0, 0))
        self.check("(a|b|c)", "c", (0, 1), (0, 1))
        self.check("(~a)", "ab", (0, 2), (0, 2))
        self.check("(.*&~(:.*b))", "ab", (0, 1), (0, 1))

    def test_groups_from_each_place_on(self):
        self.assertEqual(found("(a)(b*)", "abab", 1), found_piece((2, 4), (2, 3), (3, 4)))
        self.assertEqual(found("(a)*", "aab", 1), found_piece((1, 2), (1, 2)))
        self.assertEqual(found("(a)*", "aab", 2), found_piece((2, 2), None))
        self.assertEqual(found("(a)*$", "aab"), found_piece((3, 3), None))
        self.assertEqual(found("($)", "aab", 3), found_piece((3, 3), (3, 3)))
        self.assertEqual(found("(\\b)(a*)", "a aa", 1), found_piece((1, 1), (1, 1), (1, 1)))

    def test_groups_beside_a_tilde_and_within_what_has_an_ampersand(self):
        self.check("(a)~a(b)", "aab", (1, 3), (1, 2), (2, 3))
        self.check("(a)~a(b)", "aaab", (0, 4), (0, 1), (3, 4))
        self.check("(a)~b(b)", "ab", (0, 2), (0, 1), (1, 2))
        self.check("(a*)~a(a*)", "aaa", (0, 3), (0, 3), (3, 3))
        self.check("(a)|b&.", "b", (0, 1), None)
        self.check("(a)|b&.", "a", (0, 1), (0, 1))
        self.check("(:a&.)(b)", "ab", (0, 2), (1, 2))
        self.check("(a|b&.|c)*", "abc", (0, 3), (2, 3))
        self.check("(~(:a|b)(.))*", "abc", (0, 3), (0, 3), (2, 3))

    def test_32_groups(self):
        self.check("(.)" * 32, "a" * 40, (0, 32), *((place, place + 1) for place in range(32)))
        self.check("(" * 32 + "a" + ")" * 32, "ba", (1, 2), *[(1, 2)] * 32)
        self.check("(a)|" * 31 + "(b)", "b", (0, 1), *[None] * 31, (0, 1))
        self.check("(a*)" * 32, "aaa", (0, 3), (0, 3), *[(3, 3)] * 31)
        self.check("(a)?" * 32, "a" * 30, (0, 30), *((place, place + 1) for place in range(30)), None, None)
        self.check("(:(a)|(b))*" * 16, "ab", (0, 2), (0, 1), (1, 2), *[None] * 30)


class Long(unittest.TestCase):
    def check(self, pattern, subject, piece, *places):
        self.assertLessEqual(len(pattern), 200)
        self.assertEqual(found(pattern, subject), found_piece(piece, *places), pattern)

    def test_counts_to_100_of_the_empty_piece_within_one_another(self):
        self.check("()" + "{100}" * 39, "", (0, 0), (0, 0))
        self.check("(|a)" + "{100}" * 39, "b" * 200, (0, 0), (0, 0))
        self.check("(a?)" + "{9,99}" * 32, "a" * 200, (0, 200), (200, 200))
        self.check("(|a)" + "{100}" * 39, "a" * 200, (0, 200), (200, 200))
        self.check("(a)" + "{0,100}" * 28, "a" * 200, (0, 200), (199, 200))

    def test_subjects_of_200_bytes_with_counts_to_100(self):
        self.check("(a){100}(a){100}", "a" * 200, (0, 200), (99, 100), (199, 200))
        self.check("(a{0,100})(a{1,100})", "a" * 200, (0, 200), (0, 100), (100, 200))
        self.check("(:(a{1,3})(b{1,3})){1,100}", "aaabb" * 40, (0, 200), (195, 198), (198, 200))
        self.check("(.{1,99}){3,100}", "a" * 200, (0, 200), (198, 200))
        self.check("(.{99,100}){2}", "a" * 199, (0, 199), (100, 199))
        self.check("(.*)(.{100,})", "a" * 200, (0, 200), (0, 100), (100, 200))

    def test_patterns_as_deep_as_can_be(self):
        self.check("(:" * 65 + "(a)" + ")" * 65, "ba", (1, 2), (1, 2))
        self.check("(:" * 48 + "(a)" + ")*" * 48, "a" * 200, (0, 200), (199, 200))
        self.check("(:" * 48 + "(a)" + "|)" * 48, "a", (0, 1), (0, 1))
        self.check("(" * 32 + "a" + ")*" * 32, "aa", (0, 2), *[(0, 2)] * 31, (1, 2))
        self.check("(" * 32 + "a?" + ")+" * 32, "", (0, 0), *[(0, 0)] * 32)

    def test_patterns_as_long_as_can_be(self):
        self.check("(a)" + "*" * 197, "a" * 200, (0, 200), (199, 200))
        self.check("(a)" + "+" * 197, "a" * 200, (0, 200), (199, 200))
        self.check("(a)" + "?" * 197, "a" * 200, (0, 1), (0, 1))
        self.check("|" * 197 + "(a)", "a", (0, 1), (0, 1))
        self.check("a?" * 98 + "(a*)", "a" * 200, (0, 200), (98, 200))
        self.check("a" * 197 + "(a)", "a" * 200, (0, 198), (197, 198))
        self.check("(" + "." * 198 + ")", "a" * 200, (0, 198), (0, 198))


class GroupsLieInThePiece(unittest.TestCase):
    def test_each_place_of_a_group_lies_in_the_piece(self):
        subjects = ["a" * 40, "ab" * 20, "aab b" * 8, ""]
        for pattern in ["(a*)((b|a)*)", "((a|ab)(b|)){2,9}( *)", "((a)|(b)|( ))*", "(a(b(a)*)*)*", "(.?){7}(.)"]:
            for subject in subjects:
                for start in range(len(subject) + 1):
                    answer = found(pattern, subject, start)
                    if answer != [9, 5]:
                        self.lies_in(pattern, subject, start, answer)

    def lies_in(self, pattern, subject, start, answer):
        piece, rest, places = tuple(answer[1:3]), answer[4:], []
        while rest:
            places.append(tuple(rest[1:3]) if rest[0] == 1 else None)
            rest = rest[3:] if rest[0] == 1 else rest[1:]
        self.assertEqual(answer, found_piece(piece, *places))
        self.assertEqual(len(places), listed(pattern).count(ord("(")))
        self.assertLessEqual(start, piece[0])
        self.assertEqual(fitted(pattern, subject, *piece), [0, 1])
        for place in places:
            self.assertTrue(place is None or piece[0] <= place[0] <= place[1] <= piece[1], (pattern, subject, place))


if __name__ == "__main__":
    unittest.main()
