import unittest

from tests.helper import NOT_PLAIN, SPECIALS, WORD, fitted, listed, members, pieces

BYTES = list(range(256))


def empties(subject):
    return [(i, i) for i in range(len(subject) + 1)]


def every(subject):
    return [(i, j) for i in range(len(subject) + 1) for j in range(i, len(subject) + 1)]


class OneByte(unittest.TestCase):
    def test_a_plain_byte_fits_just_itself(self):
        for byte in range(32, 127):
            if byte not in listed(NOT_PLAIN):
                self.assertEqual(members([byte]), [byte])

    def test_an_escaped_byte_fits_just_what_it_tells(self):
        told = [(listed("\\") + [byte], byte) for byte in listed(SPECIALS)]
        told += [(listed("\\n"), 10), (listed("\\t"), 9), (listed("\\x00"), 0), (listed("\\xff"), 255)]
        told += [(listed("\\xaF"), 175), (listed("\\xFa"), 250), (listed("\\x9A"), 154)]
        for pattern, byte in told:
            self.assertEqual(members(pattern), [byte], pattern)
            self.assertEqual(members(listed("[") + pattern + listed("]")), [byte], pattern)
            others = [other for other in BYTES if other != byte]
            self.assertEqual(members(listed("[^") + pattern + listed("]")), others, pattern)

    def test_each_byte_in_small_and_large_hex(self):
        for byte in BYTES:
            for digits in (f"{byte:02x}", f"{byte:02X}"):
                for pattern in ("\\x" + digits, "[\\x" + digits + "]"):
                    self.assertEqual(fitted(pattern, [byte]), [0, 1])
                    self.assertEqual(fitted(pattern, [(byte + 1) % 256]), [0, 0])
                    self.assertEqual(fitted(pattern, [(byte + 16) % 256]), [0, 0])

    def test_a_point_fits_all_but_10(self):
        self.assertEqual(members("."), [byte for byte in BYTES if byte != 10])

    def test_sets(self):
        for pattern, within in [
            ("[abc]", "abc"), ("[a-c]", "abc"), ("[a-a]", "a"), ("[a-cx-z]", "abcxyz"), ("[cab]", "abc"),
            ("[a-cb-d]", "abcd"), ("[.*(]", "(*."), ("[:,]", ",:"), ("[ -\\-]", " !\"#$%&'()*+,-"),
            ("[\\t-\\n]", "\t\n"), ("[\\x61-c]", "abc"), ("[\\]\\\\]", "\\]"), ("[a\\-c]", "-ac"), ("[[]", "["),
            ("[\\^a]", "^a"), ("[a-c][^b]{0}", "abc"),
        ]:
            self.assertEqual(members(pattern), listed(within), pattern)

    def test_turned_sets(self):
        for pattern, without in [
            ("[^a]", "a"), ("[^a-c]", "abc"), ("[^\\n]", "\n"), ("[^\\x00-\\xfe]", BYTES[:255]), ("[^\\^]", "^"),
            ("[^\\x00-\\xff]", BYTES),
        ]:
            self.assertEqual(members(pattern), [b for b in BYTES if b not in listed(without)], pattern)

    def test_one_byte_is_one_long(self):
        for pattern in ("a", "[a]", ".", "\\x61", "[^b]"):
            self.assertEqual(pieces(pattern, "aa"), [(0, 1), (1, 2)], pattern)
            self.assertEqual(pieces(pattern, ""), [], pattern)


class Places(unittest.TestCase):
    def test_the_beginning_and_the_end(self):
        self.assertEqual(pieces("^", "ab"), [(0, 0)])
        self.assertEqual(pieces("$", "ab"), [(2, 2)])
        self.assertEqual(pieces("^$", "ab"), [])
        self.assertEqual(pieces("^|$", "ab"), [(0, 0), (2, 2)])
        self.assertEqual(pieces("^$", ""), [(0, 0)])
        self.assertEqual(pieces("^", "a\nb"), [(0, 0)])
        self.assertEqual(pieces("$", "a\nb\n"), [(4, 4)])
        self.assertEqual(pieces("^a", "aa"), [(0, 1)])
        self.assertEqual(pieces("a$", "aa"), [(1, 2)])
        self.assertEqual(pieces("a^", "aa"), [])
        self.assertEqual(pieces("$a", "aa"), [])

    def test_the_beginning_and_the_end_are_the_subjects_not_the_pieces(self):
        self.assertEqual(fitted("^a$", "bab", 1, 2), [0, 0])
        self.assertEqual(fitted("^a", "ba", 1, 2), [0, 0])
        self.assertEqual(fitted("a$", "ab", 0, 1), [0, 0])

    def test_edges_of_words(self):
        self.assertEqual(pieces("\\b", ""), [])
        self.assertEqual(pieces("\\B", ""), [(0, 0)])
        self.assertEqual(pieces("\\b", "a"), [(0, 0), (1, 1)])
        self.assertEqual(pieces("\\B", "a"), [])
        self.assertEqual(pieces("\\b", "-"), [])
        self.assertEqual(pieces("\\B", "-"), [(0, 0), (1, 1)])
        self.assertEqual(pieces("\\b", "ab-c "), [(0, 0), (2, 2), (3, 3), (4, 4)])
        self.assertEqual(pieces("\\B", "ab-c "), [(1, 1), (5, 5)])
        self.assertEqual(pieces("\\b", "--"), [])
        self.assertEqual(pieces("\\B", "--"), empties("--"))
        self.assertEqual(pieces("\\ba", "aa a"), [(0, 1), (3, 4)])
        self.assertEqual(pieces("a\\B", "aa a"), [(0, 1)])
        self.assertEqual(fitted("\\ba\\b", "aaa", 1, 2), [0, 0])

    def test_which_bytes_are_a_words(self):
        for byte in BYTES:
            edge = [0, 1] if byte in WORD else [0, 0]
            self.assertEqual(fitted("\\b", [byte], 0, 0), edge, byte)
            self.assertEqual(fitted("\\b", [byte], 1, 1), edge, byte)
            self.assertEqual(fitted("\\b", [byte, ord("-")], 1, 1), edge, byte)
            self.assertEqual(fitted("\\B", [byte, ord("a")], 1, 1), edge, byte)

    def test_counts_of_places(self):
        self.assertEqual(pieces("^*", "a"), empties("a"))
        self.assertEqual(pieces("^{2}", "a"), [(0, 0)])
        self.assertEqual(pieces("\\b+", "a "), [(0, 0), (1, 1)])
        self.assertEqual(pieces("~^", "a"), [(0, 1), (1, 1)])


class Joined(unittest.TestCase):
    def test_rows(self):
        self.assertEqual(pieces("ab", "abab"), [(0, 2), (2, 4)])
        self.assertEqual(pieces("aa", "aaa"), [(0, 2), (1, 3)])
        self.assertEqual(pieces("ab", "ba"), [])
        self.assertEqual(pieces("a(:)b", "ab"), [(0, 2)])
        self.assertEqual(pieces("(a)(:b)", "ab"), [(0, 2)])

    def test_what_is_empty_fits_the_empty_piece(self):
        for pattern in ("", "()", "(:)", "|", "&", "a{0}", "(|)", "a{0,0}", "(:a|b){0}"):
            self.assertEqual(pieces(pattern, "ab"), empties("ab"), pattern)
            self.assertEqual(pieces(pattern, ""), [(0, 0)], pattern)

    def test_one_of_several(self):
        self.assertEqual(pieces("a|bc", "abc"), [(0, 1), (1, 3)])
        self.assertEqual(pieces("a|b|c", "abc"), [(0, 1), (1, 2), (2, 3)])
        self.assertEqual(pieces("|a", "a"), [(0, 0), (0, 1), (1, 1)])
        self.assertEqual(pieces("a|", "a"), [(0, 0), (0, 1), (1, 1)])
        self.assertEqual(pieces("ab|c", "abc"), [(0, 2), (2, 3)])
        self.assertEqual(pieces("a(b|c)", "abac"), [(0, 2), (2, 4)])

    def test_all_of_several(self):
        self.assertEqual(pieces("a.&.b", "abaa"), [(0, 2)])
        self.assertEqual(pieces("a&b", "ab"), [])
        self.assertEqual(pieces("a&", "a"), [])
        self.assertEqual(pieces("a*&", "a"), empties("a"))
        self.assertEqual(pieces(".&[ab]&[bc]", "abc"), [(1, 2)])
        self.assertEqual(pieces("..&.a|b", "bab"), [(0, 1), (0, 2), (2, 3)])
        self.assertEqual(pieces("a(:.&[^b])c", "abcaac"), [(3, 6)])

    def test_not(self):
        self.assertEqual(pieces("~a", "ab"), [(0, 0), (0, 2), (1, 1), (1, 2), (2, 2)])
        self.assertEqual(pieces("~(:)", "ab"), [(0, 1), (0, 2), (1, 2)])
        self.assertEqual(pieces("~(:~a)", "ab"), [(0, 1)])
        self.assertEqual(pieces("~a", ""), [(0, 0)])
        self.assertEqual(pieces("~(:.*|.*\\n.*)", "a\na"), [])
        self.assertEqual(pieces("~[^a]", "ab"), [(0, 0), (0, 1), (0, 2), (1, 1), (2, 2)])

    def test_not_is_for_the_atom_with_all_its_counts(self):
        self.assertEqual(pieces("~a*", "ab"), [(0, 2), (1, 2)])
        self.assertEqual(pieces("~a{2}", "aa"), [p for p in every("aa") if p != (0, 2)])
        self.assertEqual(pieces("~a{2}?", "aa"), [(0, 1), (1, 2)])
        self.assertEqual(pieces("~ab", "abab"), [(0, 4), (1, 2), (1, 4), (3, 4)])
        self.assertEqual(pieces("(:~a)*", "ab"), [(0, 0), (0, 2), (1, 1), (1, 2), (2, 2)])
        self.assertEqual(pieces("~a&~b|a", "ab"), [(0, 0), (0, 1), (0, 2), (1, 1), (2, 2)])
        self.assertEqual(pieces("b~a", "baa"), [(0, 1), (0, 3)])


class Counts(unittest.TestCase):
    def test_how_many(self):
        long = "a" * 8
        for pattern, counts in [
            ("a*", range(9)), ("a+", range(1, 9)), ("a?", (0, 1)), ("a{3}", (3,)), ("a{0}", (0,)), ("a{1}", (1,)),
            ("a{3,}", range(3, 9)), ("a{0,}", range(9)), ("a{1,}", range(1, 9)), ("a{2,5}", range(2, 6)),
            ("a{0,3}", range(4)), ("a{4,4}", (4,)), ("a{9}", ()), ("a{9,}", ()), ("a{7,100}", (7, 8)),
            ("a{100}", ()), ("a{0,100}", range(9)), ("a{6,7}", (6, 7)),
        ]:
            lengths = [to for to in range(9) if fitted(pattern, long, 0, to) == [0, 1]]
            self.assertEqual(lengths, list(counts), pattern)
            self.assertEqual(pieces(pattern, long), [p for p in every(long) if p[1] - p[0] in counts], pattern)

    def test_counts_one_behind_another(self):
        long = "a" * 14
        for pattern, counts in [
            ("a{2}{3}", (6,)), ("a{2}*", range(0, 15, 2)), ("a{2}+", range(2, 15, 2)), ("a{2}?", (0, 2)),
            ("a{2,3}{2}", (4, 5, 6)), ("a{3,4}{0,2}", (0, 3, 4, 6, 7, 8)), ("a?{3}", range(4)), ("a**", range(15)),
            ("a+?", range(15)), ("a*{0}", (0,)), ("a{0}{5}", (0,)), ("a{3}{2,}", (6, 9, 12)), ("a+{3}", range(3, 15)),
            ("a{2}{2}{2}", (8,)), ("a{5,6}{1,2}", (5, 6, 10, 11, 12)),
        ]:
            lengths = [to for to in range(15) if fitted(pattern, long, 0, to) == [0, 1]]
            self.assertEqual(lengths, list(counts), pattern)

    def test_counts_of_what_fits_the_empty_piece(self):
        for pattern in ("(:){5}", "(:)*", "(:)+", "(:){3,}", "(:a{0}){2,4}", "(:|)+"):
            self.assertEqual(pieces(pattern, "ab"), empties("ab"), pattern)
        for pattern in ("(:a?){3}", "(:a|){3}", "(:a*&(:|a)){3}"):
            self.assertEqual(pieces(pattern, "aaaa"), [p for p in every("aaaa") if p[1] - p[0] < 4], pattern)
        self.assertEqual(pieces("(:a|){2,}", "aaaa"), every("aaaa"))
        self.assertEqual(pieces("(:^|a){2}", "aa"), [(0, 0), (0, 1), (0, 2)])
        self.assertEqual(pieces("(:^|a){2,3}", "aaaa"), [(0, 0), (0, 1), (0, 2), (0, 3), (1, 3), (1, 4), (2, 4)])
        self.assertEqual(pieces("(:^|a)+", "ab"), [(0, 0), (0, 1)])

    def test_a_hundred(self):
        subject = "a" * 200
        for to, answer in [(99, 0), (100, 1), (101, 0), (200, 0)]:
            self.assertEqual(fitted("a{100}", subject, 0, to), [0, answer])
        for to, answer in [(98, 0), (99, 1), (100, 1), (101, 0)]:
            self.assertEqual(fitted("a{99,100}", subject, 0, to), [0, answer])
        for to, answer in [(99, 0), (100, 1), (200, 1)]:
            self.assertEqual(fitted("a{100,}", subject, 0, to), [0, answer])
        self.assertEqual(fitted("(:a{100}){2}", subject), [0, 1])
        self.assertEqual(fitted("a{100}{100}", subject), [0, 0])
        self.assertEqual(fitted("a{0,100}{100}", subject), [0, 1])


class Examples(unittest.TestCase):
    def test_the_documents_examples(self):
        self.assertEqual(fitted("(a|ab)(c|bcd)(d*)", "abcd"), [0, 1])
        self.assertEqual(fitted("(a|ab)(c|bcd)(d*)", "abcd", 0, 3), [0, 1])
        self.assertEqual(fitted("(a|ab)(c|bcd)(d*)", "abcd", 0, 2), [0, 0])
        self.assertEqual(pieces("x*", "axxb"), [(0, 0), (1, 1), (1, 2), (1, 3), (2, 2), (2, 3), (3, 3), (4, 4)])
        self.assertEqual(pieces("~(:.*b.*)", "aab"), [(0, 0), (0, 1), (0, 2), (1, 1), (1, 2), (2, 2), (3, 3)])
        self.assertEqual(fitted("[a-z]+&~(:if)", "iff"), [0, 1])
        self.assertEqual(fitted("[a-z]+&~(:if)", "if"), [0, 0])
        self.assertEqual(pieces("(b+)", "abba"), [(1, 2), (1, 3), (2, 3)])
        self.assertEqual(fitted("a\\.b\\n", "a.b\n"), [0, 1])
        self.assertEqual(fitted("(:ab)*", ""), [0, 1])
        self.assertEqual(fitted("(:ab)+", ""), [0, 0])
        self.assertEqual(fitted("", "", 0, 0), [0, 1])


class Large(unittest.TestCase):
    def test_a_subject_of_200_bytes(self):
        subject = "ab" * 100
        self.assertEqual(fitted("(:ab)*", subject), [0, 1])
        self.assertEqual(fitted("(:ab)*", subject, 0, 199), [0, 0])
        self.assertEqual(fitted("(:ab)*", subject, 1, 199), [0, 0])
        self.assertEqual(fitted("(:ba)*", subject, 1, 199), [0, 1])
        self.assertEqual(fitted("$", subject, 200, 200), [0, 1])
        self.assertEqual(fitted("b$", subject, 199, 200), [0, 1])
        self.assertEqual(fitted("~(:.*)", subject), [0, 0])

    def test_patterns_of_200_bytes(self):
        half = "ab" * 100
        for pattern, subject, answer in [
            ("a" * 200, "a" * 200, 1), ("a" * 199 + "b", "a" * 200, 0), ("." * 200, half, 1),
            ("|" * 200, "", 1), ("|" * 200, "a", 0), ("|" * 199 + "a", "a", 1), ("a" + "|" * 199, "a", 1),
            ("&" * 200, "", 1), ("&" * 200, "a", 0), ("a" + "&a" * 99, "a", 1), ("a" + "&a" * 98 + "&b", "a", 0),
            ("." + "*" * 199, half, 1), ("." + "?" * 199, half, 0), ("a" + "+" * 199, "a" * 200, 1),
            (".*" * 100, half, 1), (".+" * 100, half, 1), (".+" * 99 + "..", half, 1),
            (".*" + "{63}" * 49, half, 1), ("(:.?)" + "{63}" * 48, half, 1), ("." + "{63}" * 49, half, 0),
            ("~a" * 100, half, 1), ("(:~a)" + "{31,62}" * 27, half, 1), ("." + "{100}" * 39, half, 0),
        ]:
            self.assertEqual(fitted(pattern, subject), [0, answer], pattern)

    def test_patterns_as_deep_as_200_bytes_allow(self):
        for pattern, subject, answer in [
            ("(:" * 66 + ")" * 66, "", 1), ("(:" * 66 + "a" + ")" * 66, "a", 1), ("(:" * 66 + "a" + ")" * 66, "b", 0),
            ("(:" * 50 + ")*" * 50, "a", 0), ("(:" * 49 + "a" + ")*" * 49, "aaa", 1),
            ("~(:" * 49 + "a" + ")" * 49, "a", 0), ("~(:" * 48 + "a" + ")" * 48, "a", 1),
            ("(:" * 49 + "a" + ")|" * 49, "", 1), ("(" * 32 + "(:" * 45 + "a" + ")" * 77, "a", 1),
        ]:
            self.assertLessEqual(len(pattern), 200)
            self.assertEqual(fitted(pattern, subject), [0, answer], pattern)


if __name__ == "__main__":
    unittest.main()
