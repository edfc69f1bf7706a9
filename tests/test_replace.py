import unittest

from tests.helper import fault, listed, replaced, replaced_by

EVERY = [byte for byte in range(256) if byte != ord("$")]


class Replace(unittest.TestCase):
    def check(self, pattern, subject, by, text):
        self.assertEqual(replaced(pattern, subject, by), replaced_by(text), (pattern, subject, by))

    def test_the_example(self):
        self.check("(b+)", "abba", "<$1$$>", "a<bb$>a")
        self.assertEqual(replaced("(b+)", "abba", "<$1$$>"), [0, 7, 97, 60, 98, 98, 36, 62, 97])

    def test_nothing_found(self):
        self.check("c", "abab", "x", "abab")
        self.check("(c)", "abab", "$0$1", "abab")
        self.assertEqual(replaced("a", "", "x"), [0, 0])
        self.check("a&b", "ab", "", "ab")

    def test_by_bytes(self):
        self.check("b", "abcb", "xy", "axycxy")
        self.check("b", "b", "b", "b")
        self.check("b", "bb", "bb", "bbbb")
        self.check("a|ab", "abc", "1", "1c")
        self.check("a*", "baac", "-", "-b-c-")
        self.check("", "ab", "-", "-a-b-")
        self.check("", "", "-", "-")
        self.check("^", "ab", "-", "-ab")
        self.check("$", "ab", "-", "ab-")
        self.check("\\b", "ab c", "|", "|ab| |c|")
        self.check("a", "aba", "(*\\1&", "(*\\1&b(*\\1&")

    def test_by_nothing(self):
        self.check("b", "abcb", "", "ac")
        self.assertEqual(replaced("a*", "aaa", ""), [0, 0])
        self.check("a*", "baab", "", "bb")
        self.check("", "ab", "", "ab")
        self.assertEqual(replaced("", "", ""), [0, 0])
        self.check(".", "ab\nc", "", "\n")

    def test_what_was_put_in_is_not_sought_through(self):
        self.check("a", "aa", "aba", "abaaba")
        self.check("ab", "aabb", "", "ab")
        self.check("b", "ab", "$0$0", "abb")

    def test_the_piece(self):
        self.check("b+", "abba", "<$0>", "a<bb>a")
        self.check("b+", "abba", "$0$0", "abbbba")
        self.check("b*", "ab", "<$0>", "<>a<b>")
        self.check("(b)c|d", "abcd", "[$0]", "a[bc][d]")

    def test_groups(self):
        self.check("(a)(b)(c)", "xabcx", "$3$2$1", "xcbax")
        self.check("(a)(b)(c)", "abc", "$1$1$3$3", "aacc")
        self.check("((a)b)", "abab", "$2$1", "aabaab")
        self.check("(.)(.)(.)(.)(.)(.)(.)(.)(.)(.)", "abcdefghij", "$9$8$7$6$5$4$3$2$1$0", "ihgfedcbaabcdefghij")
        self.check("(a|ab)(c|bcd)(d*)", "abcd", "$1,$2,$3", "ab,c,d")
        self.check("(a*)(a*)", "aab", "<$1|$2>", "<aa|>b<|>")

    def test_the_last_place_of_a_group(self):
        self.check("(a|b)*", "abxba", "<$1>", "<b>x<a>")
        self.check("(:(a)|(b))+", "abxba", "<$1$2>", "<ab>x<ab>")
        self.check("(.{1,2})*", "abc", "$1", "c")

    def test_a_group_that_does_not_fit(self):
        self.check("(a)|(b)", "ab", "<$1|$2>", "<a|><|b>")
        self.check("(a)*b", "aabb", "[$1]", "[a][]")
        self.check("(a){0}b", "ab", "[$1]", "a[]")
        self.check("(a*)*", "b", "[$1]", "[]b[]")

    def test_no_such_group(self):
        self.check("b", "abc", "<$1$9>", "a<>c")
        self.check("(b)", "abc", "<$2$1$9>", "a<b>c")
        self.check("(:b)", "abc", "<$1>", "a<>c")
        self.check("(a)(b)(c)", "abc", "$4", "")
        self.check("(.)" * 8, "abcdefgh", "$9$8", "h")
        self.check("(.)" * 9, "abcdefghi", "$9$8", "ih")

    def test_one_digit_is_a_number(self):
        self.check("(a)", "a", "$10", "a0")
        self.check("(.)" * 12, "abcdefghijkl", "$10$12$01", "a0a2abcdefghijkl1")
        self.check("(a)", "a", "$99", "9")

    def test_each_piece_by_its_own_groups(self):
        self.check("(.)(.)", "abcd!", "$2$1", "badc!")
        self.check("([a-z]+)=([0-9]*)", "x=1 yz=23 q=", "$2=$1", "1=x 23=yz =q")
        self.check("(a)|(b)|.", "abcba", "$1,$2;", "a,;,b;,;,b;a,;")
        self.check("(a*)(b)?", "aabab", "<$1$2>", "<aab><ab>")
        self.check("(a)?b", "babb", "<$1>", "<><a><>")

    def test_a_dollar_twice(self):
        self.check("a", "a", "$$", "$")
        self.check("(a)", "a", "$$1", "$1")
        self.check("(a)", "a", "$$$1", "$a")
        self.check("(a)", "a", "$$$$", "$$")
        self.check("(a)", "a", "$$$$1", "$$1")
        self.check("(a)", "a", "$1$$", "a$")
        self.check("a", "ba", "$$" * 100, "b" + "$" * 100)

    def test_every_byte_of_by_stands_for_itself(self):
        self.check("a", "bab", EVERY[:200], listed("b") + EVERY[:200] + listed("b"))
        self.check("a", "bab", EVERY[200:], listed("b") + EVERY[200:] + listed("b"))
        for byte in EVERY:
            self.check("a", "ba", [byte], [98, byte])

    def test_every_byte_of_the_subject_stays(self):
        for first in (0, 56):
            subject = list(range(first, first + 200))
            self.check("\\x2a", subject, "$0", subject)
            self.check("[^a]", subject, "$0", subject)
            self.check(".", subject, "", [10] if first == 0 else [])

    def test_long_answers(self):
        self.check("", "a" * 200, "-" * 200, "a".join(["-" * 200] * 201))
        self.check("", "a" * 200, "$$" * 100, "a".join(["$" * 100] * 201))
        self.check("a", "a" * 200, "b" * 200, "b" * 40000)
        self.check(".*", "a" * 200, "$0" * 100, "a" * 20000)
        self.check("((a*))", "a" * 200, "$0$1$2$3" * 25, "a" * 15000)
        self.check("(a)", "a" * 200, "$0$1" * 50, "a" * 20000)
        self.check("(:(a)|(b))*" * 16, "ab" * 100, "$1$2$0", "ab" + "ab" * 100)


class Itself(unittest.TestCase):
    def test_each_piece_by_itself_gives_the_subject(self):
        patterns = [
            "", "a", "b", "c", "a*", "b+", "(a)", "(a)(b)", "(a|b)?", "\\b", "\\B", "^", "$", "^a", "a$", ".", ".*", "[^a]",
            "~a", "~(:.*b.*)", ".&~b|", "a{2}", "(a*){2,3}", "()", "(a)*(b)*", "\\n", "(((a)))", "..", "\\x00|\\xff",
            "(|a)" + "{100}" * 39, "()" * 32, "(a)" + "*" * 197,
        ]
        subjects = ["", "a", "b", "ab", "abba", "bb a\nab", "aaabbb" * 9, [0, 255, 10, 128, 36], "$0$1$", "a" * 200]
        for pattern in patterns:
            for subject in subjects:
                self.assertEqual(replaced(pattern, subject, "$0"), replaced_by(listed(subject)), (pattern, subject))


class Refused(unittest.TestCase):
    def check(self, by, place):
        """Refused whether there is something to replace or not."""
        for pattern, subject in [("(a)", "ba"), ("(a)", "b"), ("", ""), ("a", ""), ("a*", "aaa"), ("c", "a" * 200)]:
            self.assertEqual(replaced(pattern, subject, by), fault(5, place), (pattern, subject, by))

    def test_a_dollar_at_the_end(self):
        self.check("$", 0)
        self.check("ab$", 2)
        self.check("$$$", 2)
        self.check("$$$$$", 4)
        self.check("$0$", 2)
        self.check("$1x$", 3)
        self.check("a" * 199 + "$", 199)

    def test_a_dollar_ahead_of_another_byte(self):
        for byte in range(256):
            if byte != ord("$") and byte not in range(ord("0"), ord("9") + 1):
                self.assertEqual(replaced("(a)", "ba", [36, byte]), fault(5, 0), byte)
                self.assertEqual(replaced("c", "ba", [97, 36, 36, 36, byte, 97]), fault(5, 3), byte)
        for sign in "a/:-{ \n\t\x00\x1f\x7f\xff\xb2":
            self.check("$" + sign, 0)
            self.check("$$1$" + sign, 3)
            self.check("$1$0$" + sign + "$1", 4)

    def test_the_first_one_is_told(self):
        self.check("$a$b$", 0)
        self.check("$1$b$c", 2)
        self.check("$$$$$x$", 4)
        self.check("$$a$", 3)
        self.check("a$$$-$$$", 3)

    def test_by_of_more_than_200_bytes(self):
        self.assertEqual(replaced("a", "a", "b" * 200), replaced_by("b" * 200))
        for length in (201, 202, 300):
            for sign in "a$\x00":
                self.assertEqual(replaced("a", "a", sign * length), [9, 1])
                self.assertEqual(replaced("c", "a", sign * length), [9, 1])
                self.assertEqual(replaced("", "", sign * length), [9, 1])

    def test_the_order_of_refusals(self):
        for pattern in ("a{2,1}", "(a", "a", "a" * 201):
            for by in ("$", "x", ""):
                self.assertEqual(replaced(pattern, "a" * 201, by), [9, 1])
                self.assertEqual(replaced(pattern, "a", "b" * 201), [9, 1])
                self.assertEqual(replaced(pattern, "a", by + "$" * 201), [9, 1])
                self.assertEqual(replaced("a" * 201, "a", by), [9, 1])
        for by in ("$", "x", "", "$$", "$x", "a$"):
            self.assertEqual(replaced("a{2,1}", "aaa", by), fault(2, 4))
            self.assertEqual(replaced("~(a)", "aaa", by), fault(4, 1))
            self.assertEqual(replaced("(a", "", by), fault(1, 2))


if __name__ == "__main__":
    unittest.main()
