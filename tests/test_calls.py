import sys
import unittest

from patternmeans.patterns import all_found, count, differ, find, fits, judge, quote, replace, split, table
from tests.helper import (
    counted, cut, differed, everywhere, fault, fitted, found, judged, listed, quoted, replaced, tabled,
)

LARGEST = 4294967295
FAULTS = [
    ("a{2,1}", 2, 4), ("(a", 1, 2), ("~(a)", 4, 1), ("(a)&b", 4, 3), ("a{", 1, 2), ("a{101}", 2, 2), ("[b-a]", 3, 3),
    ("*", 1, 0), ("a\n", 1, 1), ("a\xff", 1, 1), ("()" * 33, 4, 64), ("a" * 199 + "(", 1, 200), (")", 1, 0),
]


class Refused(unittest.TestCase):
    def test_patterns_of_more_than_200_bytes(self):
        for length in (201, 250, 300):
            for sign in "a)(*|":
                pattern = listed(sign * length)
                self.assertEqual(judge(pattern), [9, 1])
                self.assertEqual(fits(0, 0, pattern, []), [9, 1])
                self.assertEqual(find(0, pattern, []), [9, 1])
                self.assertEqual(all_found(pattern, []), [9, 1])
                self.assertEqual(split(pattern, []), [9, 1])
                self.assertEqual(replace(pattern, [], []), [9, 1])
                self.assertEqual(table(pattern), [9, 1])
                self.assertEqual(differ(pattern, []), [9, 1])
                self.assertEqual(differ([], pattern), [9, 1])
                self.assertEqual(count(0, pattern), [9, 1])

    def test_subjects_of_more_than_200_bytes(self):
        for length in (201, 250, 300):
            subject = listed("a" * length)
            self.assertEqual(quote(subject), [9, 1])
            for pattern in ("a*", "", "b", ")", "a{2,1}", "a" * 300):
                pattern = listed(pattern)
                self.assertEqual(fits(0, 0, pattern, subject), [9, 1])
                self.assertEqual(fits(0, length, pattern, subject), [9, 1])
                self.assertEqual(find(0, pattern, subject), [9, 1])
                self.assertEqual(find(length, pattern, subject), [9, 1])
                self.assertEqual(all_found(pattern, subject), [9, 1])
                self.assertEqual(split(pattern, subject), [9, 1])
                self.assertEqual(replace(pattern, subject, []), [9, 1])

    def test_lengths_of_200(self):
        self.assertEqual(fits(0, 200, listed("a" * 200), listed("a" * 200)), [0, 1])
        self.assertEqual(fits(0, 199, listed("a" * 200), listed("a" * 200)), [0, 0])
        self.assertEqual(fits(200, 200, listed("$" + "a" * 199), listed("a" * 200)), [0, 0])
        self.assertEqual(find(0, listed("a" * 200), listed("a" * 200)), [0, 0, 200, 0])
        self.assertEqual(find(200, listed("$?" * 100), listed("a" * 200)), [0, 200, 200, 0])
        self.assertEqual(all_found(listed("a" * 200), listed("a" * 200)), [0, 1, 0, 200])
        self.assertEqual(split(listed("a" * 200), listed("a" * 200)), [0, 2, 0, 0, 200, 200])
        self.assertEqual(replace(listed("a" * 200), listed("a" * 200), listed("b" * 200)), [0, 200] + [98] * 200)
        self.assertEqual(quote(listed("a" * 200)), [0, 200] + [97] * 200)
        self.assertEqual(table(listed("a" * 200)), [9, 6])

    def test_places_beyond_the_subject(self):
        for pattern in ("", "a*", ")", "~(a)"):
            for start, to in [(0, 4), (4, 4), (3, 4), (4, 3), (0, LARGEST), (LARGEST, LARGEST), (LARGEST, 0)]:
                self.assertEqual(fitted(pattern, "aaa", start, to), [9, 1], (pattern, start, to))
            for start in (4, 5, 200, 201, LARGEST - 1, LARGEST):
                self.assertEqual(found(pattern, "aaa", start), [9, 1], (pattern, start))
        self.assertEqual(fitted("", "", 0, 1), [9, 1])
        self.assertEqual(fitted("", "", 1, 1), [9, 1])
        self.assertEqual(fitted("", "aaa", 3, 3), [0, 1])
        self.assertEqual(fitted("a*", "aaa", 0, 3), [0, 1])
        self.assertEqual(found("", "", 1), [9, 1])
        self.assertEqual(found("a", "aaa", 3), [9, 5])
        self.assertEqual(found("a*", "aaa", 3), [0, 3, 3, 0])

    def test_to_below_from(self):
        for pattern in ("", "a*", ")", "a{2,1}"):
            for start, to in [(1, 0), (3, 2), (3, 0)]:
                self.assertEqual(fitted(pattern, "aaa", start, to), [9, 1], (pattern, start, to))

    def test_a_fault_of_the_pattern(self):
        for pattern, rule, place in FAULTS:
            self.assertEqual(judged(pattern), fault(rule, place), pattern)
            self.assertEqual(tabled(pattern), fault(rule, place), pattern)
            self.assertEqual(counted(pattern, 3), fault(rule, place), pattern)
            self.assertEqual(differed(pattern, "a"), fault(rule, place), pattern)
            self.assertEqual(differed(pattern, "a{3,2}"), fault(rule, place), pattern)
            self.assertEqual(differed("a", pattern), fault(rule, place, 1), pattern)
            for subject in ("aaa", "", "xyz", "b" * 200):
                self.assertEqual(fitted(pattern, subject), fault(rule, place), pattern)
                self.assertEqual(found(pattern, subject), fault(rule, place), pattern)
                self.assertEqual(found(pattern, subject, len(subject)), fault(rule, place), pattern)
                self.assertEqual(everywhere(pattern, subject), fault(rule, place), pattern)
                self.assertEqual(cut(pattern, subject), fault(rule, place), pattern)
                self.assertEqual(replaced(pattern, subject, "$0"), fault(rule, place), pattern)
                self.assertEqual(replaced(pattern, subject, "$"), fault(rule, place), pattern)


CASES = [
    ("(a|ab)(c|bcd)(d*)", "abcd", 0, 4), ("~(:.*b.*)", "aab", 0, 2), ("a{2,1}", "aab", 0, 2), ("", "", 0, 0),
    ("[^a-c]+", "xyz", 1, 3), ("a" * 201, "a", 0, 1), ("a", "a", 0, 2), ("\\b(:a&.)\\b", "a a", 2, 3), ("(a)&b", "a", 0, 1),
    ("a*", "a" * 201, 0, 1), ("a*", "aaa", 2, 1), ("((a)|(b))*", "cabc", 3, 3), ("(x)", "aaa", 4, 4), ("b", "aab", 3, 3),
    ("a{98}", "\x00\n\t\\", 0, 1), ("[^a]+&~(:bb|.{3})", "bb", 0, 2), ("(:.|\\n)*", "a\n", 0, 2),
]


def calls():
    """Each call by its function and its arguments, which are new lists each time."""
    for pattern, subject, start, to in CASES:
        yield judge, [listed(pattern)]
        yield quote, [listed(subject)]
        yield table, [listed(pattern)]
        yield differ, [listed(pattern), listed("a*")]
        yield differ, [listed("(:.|\\n)*"), listed(pattern)]
        yield count, [start, listed(pattern)]
        yield count, [198 + to, listed(pattern)]
        yield fits, [start, to, listed(pattern), listed(subject)]
        yield find, [start, listed(pattern), listed(subject)]
        yield all_found, [listed(pattern), listed(subject)]
        yield split, [listed(pattern), listed(subject)]
        for by in ("<$1$$$0>", "", "$x", "x" * 201):
            yield replace, [listed(pattern), listed(subject), listed(by)]


class ByItself(unittest.TestCase):
    def test_what_is_handed_in_is_unchanged(self):
        for (call, handed), (other, before) in zip(calls(), calls()):
            call(*handed)
            self.assertEqual(handed, before, call)

    def test_one_list_may_be_handed_in_twice(self):
        both = listed("ab")
        self.assertEqual(fits(0, 2, both, both), [0, 1])
        self.assertEqual(find(0, both, both), [0, 0, 2, 0])
        self.assertEqual(all_found(both, both), [0, 1, 0, 2])
        self.assertEqual(split(both, both), [0, 2, 0, 0, 2, 2])
        self.assertEqual(replace(both, both, both), [0, 2, 97, 98])
        self.assertEqual(quote(both), [0, 2, 97, 98])
        self.assertEqual(table(both)[:3], [0, 4, 3])
        self.assertEqual(differ(both, both), [9, 7])
        self.assertEqual(both, listed("ab"))

    def test_the_same_is_answered_again_whatever_was_asked_between(self):
        first = [call(*handed) for call, handed in calls()]
        backwards = [call(*handed) for call, handed in reversed(list(calls()))]
        self.assertEqual(backwards, first[::-1])
        self.assertEqual([call(*handed) for call, handed in calls()], first)

    def test_the_same_lists_may_be_handed_in_again(self):
        for call, handed in calls():
            self.assertEqual(call(*handed), call(*handed))

    def test_an_answer_may_be_changed_by_who_asked(self):
        for call, handed in calls():
            before = call(*handed)
            call(*handed).append(7)
            call(*handed).clear()
            self.assertEqual(call(*handed), before)

    def test_answers_are_lists_of_whole_numbers(self):
        for call, handed in calls():
            answer = call(*handed)
            self.assertIs(type(answer), list)
            self.assertEqual({type(number) for number in answer}, {int})
            self.assertGreaterEqual(min(answer), 0)

    def test_arguments_may_be_named(self):
        self.assertEqual(judge(pattern=listed("(a)")), [0, 1])
        self.assertEqual(fits(start=0, to=1, pattern=listed("a"), subject=listed("a")), [0, 1])
        self.assertEqual(find(start=0, pattern=listed("a"), subject=listed("a")), [0, 0, 1, 0])
        self.assertEqual(all_found(pattern=listed("a"), subject=listed("a")), [0, 1, 0, 1])
        self.assertEqual(split(pattern=listed("a"), subject=listed("a")), [0, 2, 0, 0, 1, 1])
        self.assertEqual(replace(pattern=listed("a"), subject=listed("a"), by=listed("b")), [0, 1, 98])
        self.assertEqual(quote(subject=listed("a")), [0, 1, 97])
        self.assertEqual(differ(pattern=listed("a"), other=listed("b")), [0, 1, 97])
        self.assertEqual(count(length=2, pattern=listed("[ab]*")), [0, 4])
        self.assertEqual(table(pattern=listed("(:.|\\n)*")), [0, 1, 1] + [0] * 256 + [1, 0])


class CallsWithinOneAnother(unittest.TestCase):
    def test_deep_patterns_need_few_calls_within_one_another(self):
        deep = ["(:" * 66 + ")" * 66, "a" + "*" * 199, "a" * 200, "|" * 200, "&" * 200, "~(:" * 49 + "a" + ")" * 49]
        deep += ["(" * 32 + ")" * 32, "(:" * 100, "[" + "a" * 198 + "]", "a{" + "1" * 197 + "}"]
        deep += ["(" * 32 + "a" + ")*" * 32, "(a)" + "{100}" * 39, "(:" * 48 + "(a)" + "|)" * 48]
        limit = sys.getrecursionlimit()
        depth = 0
        frame = sys._getframe()
        while frame is not None:
            depth, frame = depth + 1, frame.f_back
        sys.setrecursionlimit(depth + 40)
        try:
            for pattern in deep:
                for subject in ("a" * 200, "b" * 200, ""):
                    fitted(pattern, subject)
                    found(pattern, subject)
                    everywhere(pattern, subject)
                    cut(pattern, subject)
                    replaced(pattern, subject, "$0$1" * 50)
                judged(pattern)
                tabled(pattern)
                differed(pattern, "a{97}")
                differed("a{97}", pattern)
                counted(pattern, 200)
        finally:
            sys.setrecursionlimit(limit)


if __name__ == "__main__":
    unittest.main()
