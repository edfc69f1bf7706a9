import itertools
import unittest

from tests.helper import ATOMS, COUNTS, GROUPS, Drawn, differed, fault, fitted, listed, replaced_by, tabled

THE_SAME = [9, 7]
TOO_MANY = [9, 6]
WITH_PLACES = [9, 5]

# No pattern of the atoms tells a group's bytes apart, so a least word has no other bytes.
FIRSTS = [group[0] for group in GROUPS]


class Differ(unittest.TestCase):
    def check(self, one, other, word):
        self.assertEqual(differed(one, other), replaced_by(word), (one, other))
        self.assertEqual(differed(other, one), replaced_by(word), (other, one))

    def check_same(self, one, other):
        self.assertEqual(differed(one, other), THE_SAME, (one, other))
        self.assertEqual(differed(other, one), THE_SAME, (other, one))

    def test_the_examples(self):
        self.assertEqual(differed("(:ab)*", "(:ab)+"), [0, 0])
        self.assertEqual(differed("a|b", "[ab]"), [9, 7])

    def test_the_empty_word(self):
        for one, other in [
            ("", "a"), ("a*", "a+"), ("~a", "a"), ("(:.|\\n)*", "(:.|\\n)+"), ("", "[^\\x00-\\xff]"), ("a?", "b"),
        ]:
            self.check(one, other, "")

    def test_words_of_one_byte(self):
        self.assertEqual(differed("a", "b"), [0, 1, 97])
        self.check("b", "a", "a")
        self.check("a|b", "a", "b")
        self.check("a", "ab", "a")
        self.check("a*", "(:ab)*", "a")
        self.check("[^b]", "[^c]", "b")
        self.check("~a", "(:.|\\n)*", "a")
        self.check(".*", "(:.|\\n)*", "\n")
        self.check("[a-z]", "[b-y]", "a")
        self.check("[b-y]|a", "[a-z]", "z")

    def test_words_of_the_first_and_the_last_byte(self):
        self.check("[\\x00-\\xff]", "[^\\x00-\\xff]", [0])
        self.check("[\\x01-\\xff]", "[\\x00-\\xff]", [0])
        self.check("[\\x00-\\xfe]", "[\\x00-\\xff]", [255])
        self.check("[\\x00-\\xff]{2}", "[\\x00-\\xff]{3}", [0, 0])
        self.check("[\\xff]{3}", "[^\\x00-\\xff]", [255, 255, 255])
        self.check("\\xff\\x00|\\x00\\xff", "a&b", [0, 255])
        self.check("\\xff\\x00|\\xff\\xff", "\\xff\\xff", [255, 0])

    def test_words_of_two_and_more_bytes(self):
        self.check("ab", "ac", "ab")
        self.check("aaa", "aaaa", "aaa")
        self.check("(:ab)*a", "a(:ba)*|abb", "abb")
        self.check("[ab]*", "(:a|b|ab|ba)*&~(:abab)", "abab")
        self.check("[a-z]+&~(:if)", "[a-z]+", "if")
        self.check("(:a|ab)(:c|bcd)d*", "(:ac|abc)d*", "abbcd")

    def test_the_shortest_is_ahead_of_the_first_in_order(self):
        self.check("b|aa", "[^\\x00-\\xff]", "b")
        self.check("\\xff|\\x00\\x00", "a&b", [255])
        self.check("zzz|aaaa", "zzzz|aaaa", "zzz")
        self.check("[b-d]|a.", "d|aa", "b")

    def test_of_the_shortest_the_first_in_order(self):
        self.check("ba|ab", "a&b", "ab")
        self.check("ba|ab", "ab", "ba")
        self.check("bab|aba|abb|baa", "a&b", "aba")
        self.check("bab|aba|abb|baa", "aba|baa", "abb")
        self.check("[yx][ba]", "xa", "xb")
        self.check("[yx][ba]", "x[ab]", "ya")
        self.check("a[^a]|\\n\\n", "aa", "\n\n")
        self.check("c.{2}|b.{3}", "c.{2}|b.{3}&~(:b\\x01.*\\x00)", "b\x01\x00\x00")

    def test_the_same_pattern_twice(self):
        for pattern in ("", "a", "~a", "a{97}", "[ab]*a[ab]{5}", "(:.|\\n)*", "a&b", "(a|ab)(c|bcd)(d*)"):
            self.assertEqual(differed(pattern, pattern), THE_SAME)

    def test_other_patterns_of_the_same_words(self):
        for one, other in [
            ("(:ab)*a", "a(:ba)*"), ("~(:~a)", "a"), ("(:a|b)*", "(:a*b*)*"), ("a+", "a{2,}|a"), ("", "()"),
            ("a&b", "[^\\x00-\\xff]"), ("(:a{2}|a{3})*", "a{2,}|"), ("a*", "a" + "*?+" * 66),
            ("a{97}", "a" * 97), ("(a)(b)", "ab"),
        ]:
            self.check_same(one, other)

    def test_tables_of_many_states(self):
        self.check("a{97}", "a{96}", "a" * 96)
        self.check("a{97}", "a{97}&b", "a" * 97)
        self.check("a{97}", "[ab]{97}", "a" * 96 + "b")
        self.check("a{0,97}", "a*", "a" * 98)
        self.check("a?{98}", "a*", "a" * 99)
        self.check("[ab]*a[ab]{5}", "[ab]*a[ab]{5}&~(:b{6}ab{5})", "b" * 6 + "a" + "b" * 5)
        self.check("(:a{9})*&(:a{11})*", "", "a" * 99)
        self.check("(:a{9})*&(:a{11})*", "|a{97}", "a" * 97)
        # The words of the one come round by twos, of the other by threes.
        self.check("(:aa)*", "(:aaa)*(:aa)?", "aaa")
        self.check("(:a{31})*", "(:a{37})*", "a" * 31)
        self.check("~(:[ab]{47}[ab]{0})", "(:.|\\n)*", "a" * 47)
        self.check("(:\\xff\\xfe){48}", "(:\\xff[\\xfe\\xff]){48}", [255, 254] * 47 + [255, 255])

    def test_the_word_is_the_least_of_all_that_just_one_fits(self):
        drawn = Drawn(9, ATOMS, COUNTS)
        words = [list(word) for length in range(4) for word in itertools.product(FIRSTS, repeat=length)]
        lengths = {0: 0, 1: 0, 2: 0, 3: 0, "more": 0, "none": 0}
        for tried in range(160):
            one, other = [drawn.without_groups(1 + tried % 2, 40) for pattern in range(2)]
            if tried % 4 > 0:
                one, other = [f"(:{text})&[\\x00-\\xff]{{{tried % 4},}}" for text in (one, other)]
            answer = differed(one, other)
            self.assertEqual(differed(other, one), answer)
            if answer == TOO_MANY:
                self.assertIn(TOO_MANY, (tabled(one), tabled(other)))
                continue
            least = next((word for word in words if fitted(one, word) != fitted(other, word)), None)
            if least is not None:
                self.assertEqual(answer, [0, len(least), *least], (one, other))
                lengths[len(least)] += 1
            elif answer == THE_SAME:
                self.assertEqual(tabled(one), tabled(other))
                lengths["none"] += 1
            else:
                self.assertEqual(answer[:2], [0, len(answer) - 2])
                self.assertGreater(answer[1], 3, (one, other))
                self.assertNotEqual(fitted(one, answer[2:]), fitted(other, answer[2:]))
                lengths["more"] += 1
        self.assertGreater(min(lengths.values()), 2, lengths)

    def test_there_is_none_just_if_the_tables_are_the_same(self):
        drawn = Drawn(10, ATOMS, COUNTS)
        patterns = sorted({drawn.drawn(1, 0, 12)[0] for tried in range(40)})
        tables = [tabled(pattern) for pattern in patterns]
        same = 0
        for (one, first), (other, second) in itertools.product(zip(patterns, tables), repeat=2):
            self.assertEqual(differed(one, other) == THE_SAME, first == second, (one, other))
            same += first == second
        self.assertGreater(same, len(patterns))


class Refused(unittest.TestCase):
    # What would be refused by several of these is refused by the first.
    FAULTY = [("(^a{100}", 1, 8), ("a{2,1}", 2, 4), ("~(a)", 4, 1)]
    PLACES = ["^", "a{100}$", "\\b{0}", "~(:\\B)a{99}"]
    MANY = ["a{98}", "[ab]*a[ab]{6}", "(:a{100}){0}"]

    def test_patterns_of_more_than_200_bytes(self):
        for length in (201, 300):
            for sign in "(a^*":
                for other in ("", "a", "a{2,1}", "^", "a{98}", "b" * 201):
                    self.assertEqual(differed(sign * length, other), [9, 1])
                    self.assertEqual(differed(other, sign * length), [9, 1])
        self.assertEqual(differed("a*" * 100, "a*" * 100), THE_SAME)

    def test_the_first_patterns_fault(self):
        for one, rule, place in self.FAULTY:
            for other in (one, "", "a", ")", "a{101}", *self.PLACES, *self.MANY):
                self.assertEqual(differed(one, other), fault(rule, place), (one, other))

    def test_the_second_patterns_fault(self):
        for other, rule, place in self.FAULTY:
            for one in ("", "a", *self.PLACES, *self.MANY):
                self.assertEqual(differed(one, other), fault(rule, place, 1), (one, other))
        self.assertEqual(differed("a", "a{2,1}"), [9, 2, 1, 2, 4])

    def test_places_in_one_of_them(self):
        for one in self.PLACES:
            for other in (one, "", "a", *self.PLACES, *self.MANY):
                self.assertEqual(differed(one, other), WITH_PLACES, (one, other))
                self.assertEqual(differed(other, one), WITH_PLACES, (other, one))

    def test_too_many_states_of_one_of_them(self):
        for one in self.MANY:
            for other in (one, "", "a", "(:.|\\n)*", *self.MANY):
                self.assertEqual(differed(one, other), TOO_MANY, (one, other))
                self.assertEqual(differed(other, one), TOO_MANY, (other, one))

    def test_what_two_tables_come_to_together_may_be_more(self):
        self.assertEqual(differed("a{49}", "b{50}"), replaced_by("a" * 49))
        self.assertEqual(differed("a{49}|b{50}", ""), TOO_MANY)
        self.assertEqual(differed("[ab]*a[ab]{5}|c*", "[ab]*b[ab]{5}|c*")[0], 0)
        self.assertEqual(differed("(:a{9})*&(:a{11})*", "(:b{9})*&(:b{11})*"), replaced_by("a" * 99))

    def test_they_fit_the_same(self):
        self.assertEqual(differed("a|b", "[ab]"), [9, 7])
        self.assertEqual(differed(listed("a"), listed("(a)")), [9, 7])


if __name__ == "__main__":
    unittest.main()
