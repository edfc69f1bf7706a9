import sys
import unittest

from patternmeans.patterns import fits, judge
from tests.helper import fault, fitted, judged, listed

LARGEST = 4294967295


class Refused(unittest.TestCase):
    def test_lengths_above_200(self):
        for length in (201, 250, 300):
            self.assertEqual(fits(0, 0, listed("a" * length), []), [9, 1])
            self.assertEqual(fits(0, 0, [], listed("a" * length)), [9, 1])
            self.assertEqual(fits(0, length, listed("a*"), listed("a" * length)), [9, 1])
            self.assertEqual(fits(0, 0, listed(")" * length), []), [9, 1])
            self.assertEqual(fits(0, 0, listed(")"), listed("a" * length)), [9, 1])

    def test_lengths_of_200(self):
        self.assertEqual(fits(0, 200, listed("a" * 200), listed("a" * 200)), [0, 1])
        self.assertEqual(fits(0, 199, listed("a" * 200), listed("a" * 200)), [0, 0])
        self.assertEqual(fits(200, 200, listed("$" + "a" * 199), listed("a" * 200)), [0, 0])

    def test_places_beyond_the_subject(self):
        for pattern in ("", "a*", ")", "~(a)"):
            for start, to in [(0, 4), (4, 4), (3, 4), (4, 3), (0, LARGEST), (LARGEST, LARGEST), (LARGEST, 0)]:
                self.assertEqual(fitted(pattern, "aaa", start, to), [9, 1], (pattern, start, to))
        self.assertEqual(fitted("", "", 0, 1), [9, 1])
        self.assertEqual(fitted("", "", 1, 1), [9, 1])
        self.assertEqual(fitted("", "aaa", 3, 3), [0, 1])
        self.assertEqual(fitted("a*", "aaa", 0, 3), [0, 1])

    def test_to_below_from(self):
        for pattern in ("", "a*", ")", "a{2,1}"):
            for start, to in [(1, 0), (3, 2), (3, 0)]:
                self.assertEqual(fitted(pattern, "aaa", start, to), [9, 1], (pattern, start, to))

    def test_a_fault_of_the_pattern(self):
        for pattern, rule, place in [
            ("a{2,1}", 2, 4), ("(a", 1, 2), ("~(a)", 4, 1), ("(a)&b", 4, 3), ("a{", 1, 2), ("a{101}", 2, 2), ("[b-a]", 3, 3),
            ("*", 1, 0), ("a\n", 1, 1), ("a\xff", 1, 1), ("()" * 33, 4, 64), ("a" * 199 + "(", 1, 200),
        ]:
            self.assertEqual(fitted(pattern, "aaa"), fault(rule, place), pattern)
            self.assertEqual(fitted(pattern, ""), fault(rule, place), pattern)
            self.assertEqual(judged(pattern), fault(rule, place), pattern)


CALLS = [
    ("(a|ab)(c|bcd)(d*)", "abcd", 0, 4), ("~(:.*b.*)", "aab", 0, 2), ("a{2,1}", "aab", 0, 2), ("", "", 0, 0),
    ("[^a-c]+", "xyz", 1, 3), ("a" * 201, "a", 0, 1), ("a", "a", 0, 2), ("\\b(:a&.)\\b", "a a", 2, 3), ("(a)&b", "a", 0, 1),
    ("a*", "a" * 201, 0, 1), ("a*", "aaa", 2, 1),
]


class ByItself(unittest.TestCase):
    def test_what_is_handed_in_is_unchanged(self):
        for pattern, subject, start, to in CALLS:
            handed = listed(pattern), listed(subject)
            fits(start, to, handed[0], handed[1])
            judge(handed[0])
            self.assertEqual(handed, (listed(pattern), listed(subject)))

    def test_one_list_may_be_pattern_and_subject(self):
        both = listed("ab")
        self.assertEqual(fits(0, 2, both, both), [0, 1])
        self.assertEqual(both, listed("ab"))

    def test_the_same_is_answered_again_whatever_was_asked_between(self):
        def answer(call):
            pattern, subject, start, to = call
            return fitted(pattern, subject, start, to), judged(pattern)

        first = [answer(call) for call in CALLS]
        self.assertEqual([answer(call) for call in reversed(CALLS)], first[::-1])
        self.assertEqual([answer(call) for call in CALLS], first)

    def test_an_answer_may_be_changed_by_who_asked(self):
        for pattern in ("(a)", "(a", "a" * 201):
            before = judged(pattern), fitted(pattern, "a", 0, 1)
            judged(pattern).append(7)
            fitted(pattern, "a", 0, 1).clear()
            self.assertEqual((judged(pattern), fitted(pattern, "a", 0, 1)), before)

    def test_answers_are_lists_of_whole_numbers(self):
        for pattern, subject, start, to in CALLS:
            for answer in (fitted(pattern, subject, start, to), judged(pattern)):
                self.assertIs(type(answer), list)
                self.assertEqual({type(number) for number in answer}, {int})

    def test_arguments_may_be_named(self):
        self.assertEqual(judge(pattern=listed("(a)")), [0, 1])
        self.assertEqual(fits(start=0, to=1, pattern=listed("a"), subject=listed("a")), [0, 1])


class CallsWithinOneAnother(unittest.TestCase):
    def test_deep_patterns_need_few_calls_within_one_another(self):
        deep = ["(:" * 66 + ")" * 66, "a" + "*" * 199, "a" * 200, "|" * 200, "&" * 200, "~(:" * 49 + "a" + ")" * 49]
        deep += ["(" * 32 + ")" * 32, "(:" * 100, "[" + "a" * 198 + "]", "a{" + "1" * 197 + "}"]
        limit = sys.getrecursionlimit()
        depth = 0
        frame = sys._getframe()
        while frame is not None:
            depth, frame = depth + 1, frame.f_back
        sys.setrecursionlimit(depth + 40)
        try:
            for pattern in deep:
                fitted(pattern, "a" * 200)
                judged(pattern)
        finally:
            sys.setrecursionlimit(limit)


if __name__ == "__main__":
    unittest.main()
