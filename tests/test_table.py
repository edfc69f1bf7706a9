import itertools
import time
import unittest

from tests.helper import ATOMS, COUNTS, GROUPS, Drawn, Made, fault, fitted, listed, tabled

TOO_MANY = [9, 6]
WITH_PLACES = [9, 5]

HIGH_COUNTS = [
    ("*", 0, None), ("?", 0, 1), ("{1}", 1, 1), ("{0}", 0, 0), ("{5}", 5, 5), ("{7}", 7, 7), ("{11}", 11, 11),
    ("{9,}", 9, None), ("{0,8}", 0, 8), ("{6,13}", 6, 13), ("{3,5}", 3, 5), ("{23}", 23, 23), ("{0,31}", 0, 31),
    ("{48}", 48, 48), ("{4,49}", 4, 49), ("{16,}", 16, None),
]


def told(classes, *rows):
    """What table answers by the bytes of each class but 0, and by each state's own numbers."""
    class_of = [0] * 256
    for number, within in enumerate(classes):
        for byte in listed(within):
            class_of[byte] = number + 1
    return [0, len(rows), len(classes) + 1, *class_of, *(number for row in rows for number in row)]


def parted(answer):
    """Of each byte its class, of each state whether it's an end, and the next state by each class."""
    states, classes = answer[1:3]
    rows = [answer[259 + state * (classes + 1):][:classes + 1] for state in range(states)]
    return answer[3:259], [row[0] for row in rows], [row[1:] for row in rows]


def words(signs, longest):
    for length in range(longest + 1):
        for word in itertools.product(signs, repeat=length):
            yield list(word)


NOTHING = told([], [0, 0])
ALL_WORDS = told([], [1, 0])
EMPTY_WORD = told([], [1, 1], [0, 1])
JUST_A = told(["a"], [0, 1, 2], [0, 1, 1], [1, 1, 1])


class Tables(unittest.TestCase):
    def check(self, pattern, classes, *rows):
        self.assertEqual(tabled(pattern), told(classes, *rows), pattern)

    def test_the_example(self):
        answer = tabled("a*")
        self.assertEqual(answer, [0, 2, 2] + [0] * 97 + [1] + [0] * 158 + [1, 1, 0] + [0, 1, 1])

    def test_the_empty_word(self):
        self.assertEqual(tabled(""), [0, 2, 1] + [0] * 256 + [1, 1] + [0, 1])
        for pattern in ("", "(:)", "()", "|", "&", "()*", "a{0}", "a{0,0}", "a{97}{0}", "(:.|\\n){0}", "a?&b?"):
            self.assertEqual(tabled(pattern), EMPTY_WORD, pattern)

    def test_one_byte(self):
        self.assertEqual(tabled("a"), JUST_A)
        self.check("\\x00", [range(1, 256)], [0, 1, 2], [1, 2, 2], [0, 2, 2])
        self.check("\\xff", ["\xff"], [0, 1, 2], [0, 1, 1], [1, 1, 1])
        self.check("\\n", ["\n"], [0, 1, 2], [0, 1, 1], [1, 1, 1])
        self.check(".", ["\n"], [0, 1, 2], [1, 2, 2], [0, 2, 2])

    def test_sets(self):
        self.check("[bd]", ["bd"], [0, 1, 2], [0, 1, 1], [1, 1, 1])
        self.check("[^bd]", ["bd"], [0, 1, 2], [1, 2, 2], [0, 2, 2])
        self.check("[\\x00-a]", [range(98, 256)], [0, 1, 2], [1, 2, 2], [0, 2, 2])
        self.check("[\\x80-\\xff]", [range(128, 256)], [0, 1, 2], [0, 1, 1], [1, 1, 1])
        self.check("[\\x00-\\xff]", [], [0, 1], [1, 2], [0, 2])
        self.check("[^\\x00-\\xff]", [], [0, 0])

    def test_one_state(self):
        self.assertEqual(tabled("(:.|\\n)*"), [0, 1, 1] + [0] * 256 + [1, 0])
        self.assertEqual(tabled("~(:.|\\n)*"), [0, 1, 1] + [0] * 256 + [0, 0])
        for pattern in ("(:.|\\n)*", "[^a]*|[^b]*|.*a.*b.*|~(:.*)|.*", "~(:a&b)", "a|~a", "(:a|[^a])*"):
            self.assertEqual(tabled(pattern), ALL_WORDS, pattern)
        for pattern in ("a&b", "a&aa", "~(:a|~a)", "[^\\x00-\\xff]+", "a[^\\x00-\\xff]", "[^\\x00-\\xff]{2}", "a&~a"):
            self.assertEqual(tabled(pattern), NOTHING, pattern)

    def test_rows(self):
        self.check("ab", ["a", "b"], [0, 1, 2, 1], [0, 1, 1, 1], [0, 1, 1, 3], [1, 1, 1, 1])
        self.check("ba", ["a", "b"], [0, 1, 1, 2], [0, 1, 1, 1], [0, 1, 3, 1], [1, 1, 1, 1])
        self.check("aa", ["a"], [0, 1, 2], [0, 1, 1], [0, 1, 3], [1, 1, 1])
        self.check("a.", ["\n", "a"], [0, 1, 1, 2], [0, 1, 1, 1], [0, 3, 1, 3], [1, 1, 1, 1])
        self.check(".a", ["\n", "a"], [0, 1, 2, 1], [0, 2, 2, 3], [0, 2, 2, 2], [1, 2, 2, 2])
        self.check("a*b", ["a", "b"], [0, 1, 0, 2], [0, 1, 1, 1], [1, 1, 1, 1])
        self.check("a*[ab]", ["a", "b"], [0, 1, 2, 3], [0, 1, 1, 1], [1, 1, 2, 3], [1, 1, 1, 1])

    def test_one_of_several_and_all_of_several(self):
        self.check("a|bc", ["a", "b", "c"], [0, 1, 2, 3, 1], [0, 1, 1, 1, 1], [1, 1, 1, 1, 1], [0, 1, 1, 1, 2])
        self.check("a||b", ["ab"], [1, 1, 2], [0, 1, 1], [1, 1, 1])
        self.check("[ab]&[bc]", ["b"], [0, 1, 2], [0, 1, 1], [1, 1, 1])
        self.check("(:a.)&(:.b)", ["a", "b"], [0, 1, 2, 1], [0, 1, 1, 1], [0, 1, 1, 3], [1, 1, 1, 1])
        self.check("a.*&.*b&..", ["a", "b"], [0, 1, 2, 1], [0, 1, 1, 1], [0, 1, 1, 3], [1, 1, 1, 1])

    def test_what_is_not_fitted(self):
        self.check("~a", ["a"], [1, 1, 2], [1, 1, 1], [0, 1, 1])
        self.check("~(:a*)", ["a"], [0, 1, 0], [1, 1, 1])
        self.check("~(:)", [], [0, 1], [1, 1])
        self.check("~a*", ["a"], [0, 1, 0], [1, 1, 1])
        self.assertEqual(tabled("~(:~a)"), JUST_A)

    def test_counts(self):
        self.check("a{1}", ["a"], [0, 1, 2], [0, 1, 1], [1, 1, 1])
        self.check("a{2}", ["a"], [0, 1, 2], [0, 1, 1], [0, 1, 3], [1, 1, 1])
        self.check("a{2,}", ["a"], [0, 1, 2], [0, 1, 1], [0, 1, 3], [1, 1, 3])
        self.check("a{0,}", ["a"], [1, 1, 0], [0, 1, 1])
        self.check("a+", ["a"], [0, 1, 2], [0, 1, 1], [1, 1, 2])
        self.check("a{1,}", ["a"], [0, 1, 2], [0, 1, 1], [1, 1, 2])
        self.check("a?", ["a"], [1, 1, 2], [0, 1, 1], [1, 1, 1])
        self.check("a{0,1}", ["a"], [1, 1, 2], [0, 1, 1], [1, 1, 1])
        self.check("a{0,2}", ["a"], [1, 1, 2], [0, 1, 1], [1, 1, 3], [1, 1, 1])
        self.check("a{1,2}", ["a"], [0, 1, 2], [0, 1, 1], [1, 1, 3], [1, 1, 1])
        self.check("a{2,3}", ["a"], [0, 1, 2], [0, 1, 1], [0, 1, 3], [1, 1, 4], [1, 1, 1])
        self.check("a{2,2}", ["a"], [0, 1, 2], [0, 1, 1], [0, 1, 3], [1, 1, 1])

    def test_counts_behind_counts(self):
        self.check("a{2}*", ["a"], [1, 1, 2], [0, 1, 1], [0, 1, 0])
        self.check("a{2}{2}", ["a"], [0, 1, 2], [0, 1, 1], [0, 1, 3], [0, 1, 4], [0, 1, 5], [1, 1, 1])
        self.check("a?{2}", ["a"], [1, 1, 2], [0, 1, 1], [1, 1, 3], [1, 1, 1])
        self.check("a{2}?", ["a"], [1, 1, 2], [0, 1, 1], [0, 1, 3], [1, 1, 1])
        self.check("a{2,3}{2}", ["a"], [0, 1, 2], [0, 1, 1], *([0, 1, k] for k in (3, 4, 5)),
                   *([1, 1, k] for k in (6, 7, 1)))
        self.assertEqual(tabled("a" + "*?+" * 66), tabled("a*"))
        self.assertEqual(tabled("a?{9}{11}"), TOO_MANY)
        self.assertEqual(tabled("a*" + "{100}{0,99}{77,}" * 12), tabled("a*"))

    def test_classes_are_numbered_by_their_first_bytes(self):
        self.check("[a-z]&~[m-p]|0", ["0" + "abcdefghijkl" + "qrstuvwxyz"], [0, 1, 2], [0, 1, 1], [1, 1, 1])
        self.check("b|za", ["a", "b", "z"], [0, 1, 1, 2, 3], *([0] + [1] * 4, [1] + [1] * 4), [0, 1, 2, 1, 1])
        self.check("[^\\x00]|\\x00b", [[*range(1, 98), *range(99, 256)], "b"],
                   [0, 1, 2, 2], [0, 3, 3, 2], [1, 3, 3, 3], [0, 3, 3, 3])

    def test_states_are_numbered_as_they_are_come_to(self):
        # The one that leads nowhere is come to by the byte 0 from the beginning, or only later.
        self.check("abc", ["a", "b", "c"], [0, 1, 2, 1, 1], [0] + [1] * 4, [0, 1, 1, 3, 1], [0, 1, 1, 1, 4],
                   [1] + [1] * 4)
        self.check("[\\x00a]a|[^\\x00a]", [[*range(1, 97), *range(98, 256)], "a"],
                   [0, 1, 2, 1], [0, 3, 3, 2], [1, 3, 3, 3], [0, 3, 3, 3])
        self.check("(:..)*", ["\n"], [1, 1, 2], [0, 0, 2], [0, 2, 2])
        self.check("(:\\xff|\\x00\\xfe)*", [range(1, 254), [254], [255]],
                   [1, 1, 2, 2, 0], [0, 2, 2, 0, 2], [0, 2, 2, 2, 2])

    def test_groups_are_as_what_is_within(self):
        for one, other in [("(a)(b)", "ab"), ("(a|b)*", "[ab]*"), ("((a)b)+", "(:ab)+"), ("(()|(a))", "a?")]:
            self.assertEqual(tabled(one), tabled(other))


class SameWords(unittest.TestCase):
    def test_patterns_of_the_same_words_have_the_same_table(self):
        for patterns in [
            ("(:ab)*a", "a(:ba)*"), ("a|b", "[ab]", "b|a", "[a-b]", "(a)|b|a"), ("~(:~a)", "a", "a|a&a"),
            ("(:a|b)*", "(:a*b*)*", "a*(:ba*)*", "[ab]{0,}", "([ab]{2})*[ab]?"),
            ("a+", "aa*", "a*a", "a{1,}", "a{2,}|a"),
            ("a?", "|a", "a|", "a{0,1}", "(:a{0}|a)"), ("~(:.*b.*)", "[^b]*(:\\n(:.|\\n)*)?|~(:.*b.*)"),
            ("aaa&aaa", "a{3}", "a{2}a", "aa{2}", "a{3,3}"), ("[a-z]+&~(:if)", "i|[a-z]+&~(:if)&~i", "~(:~[a-z]+|if)"),
            ("(:a{2}|a{3})*", "a{2,}|", "~a&a*"), (".|\\n", "[\\x00-\\xff]", "[^a]|a"),
            ("(:a|ab)(:c|bcd)d*", "(:ac|abc|abcd|abbcd)d*"),
            ("(:.*)a(:.*)", ".*a.*", "[^a\\n]*a.*", ".*a[^a\\n]*"), ("(:a*)*", "a*", "a**", "(:a?)*", "a*?", "a+?"),
        ]:
            tables = [tabled(pattern) for pattern in patterns]
            self.assertEqual(tables[0][0], 0)
            for pattern, answer in zip(patterns, tables):
                self.assertEqual(answer, tables[0], (patterns[0], pattern))

    def test_patterns_of_other_words_have_other_tables(self):
        patterns = ["", "a", "b", "aa", "a*", "a+", "a?", "~a", "[ab]", "[^a]", ".", "ab", "ba", "a|bb",
                    "a{2,}", "a{2,3}", "a&b"]
        tables = [tabled(pattern) for pattern in patterns]
        for one, other in itertools.combinations(tables, 2):
            self.assertNotEqual(one, other)


class Meaning(unittest.TestCase):
    def test_tables_are_made_as_the_words_say(self):
        drawn = Drawn(5, ATOMS, COUNTS)
        made = Made(GROUPS)
        for tried in range(900):
            text, tree, groups = drawn.drawn(tried % 4, 0, 70)
            self.assertEqual(tabled(text), made.answer(tree), text)

    def test_large_tables_are_made_as_the_words_say(self):
        drawn = Drawn(6, ATOMS, HIGH_COUNTS)
        made = Made(GROUPS)
        refused = 0
        for tried in range(240):
            text, tree, groups = drawn.drawn(1 + tried % 3, 0, 40)
            answer = tabled(text)
            self.assertEqual(answer, made.answer(tree), text)
            refused += answer == TOO_MANY
        self.assertGreater(refused, 30)
        self.assertLess(refused, 120)

    def test_tables_tell_just_the_words_that_their_patterns_fit(self):
        drawn = Drawn(7, ATOMS, COUNTS)
        for tried in range(400):
            text, tree, groups = drawn.drawn(1 + tried % 3, 0, 50)
            answer = tabled(text)
            if answer == TOO_MANY:
                continue
            class_of, ends, nexts = parted(answer)
            for word in [*words(b"ab", 4), *words(b"a\n\x00", 3)]:
                state = 0
                for byte in word:
                    state = nexts[state][class_of[byte]]
                self.assertEqual([0, ends[state]], fitted(text, word), (text, word))

    def test_tables_are_least_and_numbered_in_order(self):
        drawn = Drawn(8, ATOMS, COUNTS)
        for tried in range(300):
            text, tree, groups = drawn.drawn(1 + tried % 3, 0, 60)
            answer = tabled(text)
            if answer == TOO_MANY:
                continue
            class_of, ends, nexts = parted(answer)
            self.assertEqual(len(answer), 259 + answer[1] * (answer[2] + 1))
            self.assertEqual(list(dict.fromkeys(class_of)), list(range(answer[2])), text)
            self.assertEqual(len(set(zip(*nexts))), answer[2], text)
            come_to = [0]
            for state in come_to:
                come_to += [to for to in dict.fromkeys(nexts[state]) if to not in come_to]
            self.assertEqual(come_to, list(range(answer[1])), text)
            apart = {(x, y) for x in come_to for y in come_to if ends[x] != ends[y]}
            known = -1
            while known < len(apart):
                known = len(apart)
                apart |= {
                    (x, y) for x in come_to for y in come_to
                    if any(pair in apart for pair in zip(nexts[x], nexts[y]))
                }
            self.assertEqual(len(apart), answer[1] * (answer[1] - 1), text)


class TooMany(unittest.TestCase):
    def check_most(self, pattern, most, states):
        """The pattern, of a number, has a table of so many states for the most, and none for one more."""
        self.assertEqual(tabled(pattern.format(most))[:2], [0, states], pattern)
        self.assertEqual(tabled(pattern.format(most + 1)), TOO_MANY, pattern)

    def test_of_rows_each_one_longer(self):
        # On the way to a{97} are 97 states of a{96} ahead of its end, the end, and behind it an end, what
        # fits no more with the last a or without: 100. The table has two less, as these three are two.
        self.check_most("a{{{}}}", 97, 99)
        for times in range(98, 101):
            self.assertEqual(tabled(f"a{{{times}}}"), TOO_MANY)
        self.check_most("a?{{{}}}", 98, 100)
        self.check_most("a{{{}}}a", 96, 99)
        self.check_most("aa{{{}}}", 96, 99)
        self.check_most("(:ab){{{}}}", 48, 98)
        self.check_most("(:a{{{}}}){{2}}", 48, 98)
        self.check_most("((a){{{}}})", 97, 99)
        self.assertEqual(tabled("a" * 97)[:2], [0, 99])
        self.assertEqual(tabled("a" * 98), TOO_MANY)

    def test_of_what_is_counted_without_a_most(self):
        self.check_most("a{{{},}}", 96, 98)
        self.check_most("a{{{}}}b*", 96, 98)
        self.check_most("(:ab){{{},}}", 47, 96)
        # One for the beginning by itself, for each of the 49 two, and one that leads nowhere.
        self.check_most("(:a{{{}}})*", 49, 50)
        self.check_most("(:a{{{}}})+", 48, 50)
        self.check_most("b*a{{{}}}", 48, 50)
        self.check_most(".*a{{{}}}", 48, 50)
        self.check_most("[ab]*a[ab]{{{}}}", 5, 65)

    def test_of_what_is_counted_with_a_most(self):
        # On the way to x R(k) are three states more than k, and k + 2 are left.
        self.check_most("a{{0,{}}}", 97, 99)
        self.check_most("a{{1,{}}}", 97, 99)
        self.check_most("a{{50,{}}}", 97, 99)
        self.check_most("a{{{}}}?", 97, 99)
        self.check_most("(:ab){{0,{}}}", 48, 98)
        self.check_most("(:a{{{}}}){{0,2}}", 48, 98)

    def test_of_pairs(self):
        # The beginnings, a's with b's nowhere, b's with a's nowhere, and both nowhere.
        self.check_most("a{{49}}|b{{{}}}", 49, 99)
        self.check_most("a{{49}}&b{{{}}}", 49, 1)
        self.check_most("a{{1}}&b{{{}}}", 97, 1)
        self.check_most("(:a{{48}}|b{{{}}})c", 49, 99)
        self.assertEqual(tabled("a{97}|a{97}&a{97}")[:2], [0, 99])

    def test_of_what_is_not_left(self):
        for pattern, states in [
            ("a{{{}}}{{0}}", 2), ("(:a{{{}}}){{0,0}}b", 3), ("~a{{{}}}", 99), ("~(:~(:a{{{}}}))", 99),
            ("a{{{}}}|.*", 2),
            ("(:.|\\n)*|a{{{}}}", 1), ("[^\\x00-\\xff]a{{{}}}", 1), ("a{{{}}}[^\\x00-\\xff]", 1),
            ("[^\\x00-\\xff]&a{{{}}}", 1), ("~(:a{{{}}}){{0}}", 2), ("(:b|a{{{}}}{{0}}){{0}}", 2), ("a{{0,{}}}*", 2),
            ("(:a{{{}}}&b)*", 2), ("a{{0,{}}}|a*", 2),
        ]:
            self.check_most(pattern, 97, states)

    def test_what_is_taken_once_is_still_made(self):
        # The least words of it with their own beginning come to once more: 99 rounds and nowhere.
        whole = "(:(:a{9})*&(:a{11})*)"
        answer = tabled(whole)
        self.assertEqual(answer[:2], [0, 100])
        for pattern in (whole, "(" + whole + ")", "~(:~" + whole + ")", whole + "|[^\\x00-\\xff]", whole + "&" + whole):
            self.assertEqual(tabled(pattern), answer, pattern)
        self.assertEqual(tabled(whole + "{0}"), EMPTY_WORD)
        self.assertEqual(tabled("[^\\x00-\\xff]&" + whole), NOTHING)
        for behind in ("{1}", "{1,1}", "?", "{0,1}", "*", "+", "{2}", "a", "(:)", "|", "|()", "{1}{0}", "?&a"):
            self.assertEqual(tabled(whole + behind), TOO_MANY, behind)
        for ahead in ("()", "a", "a{0}", "|"):
            self.assertEqual(tabled(ahead + whole), TOO_MANY, ahead)

    def test_nothing_is_put_behind_what_is_counted_by_one_number(self):
        # With the empty row behind it, each a would be come to with and without an end ahead of it.
        answer = tabled("[bc]a{55}|b")
        self.assertEqual(answer[:2], [0, 59])
        for count in ("{1}", "{1,1}"):
            self.assertEqual(tabled("(:[bc]a{55}|b)" + count), answer, count)
        self.assertEqual(tabled("(:[bc]a{55}|b)(:)"), TOO_MANY)
        self.assertEqual(tabled("(:[bc]a{55}|b){1}{0,1}"), TOO_MANY)

    def test_rows_are_joined_from_the_last_one_on(self):
        # From the last one on, a hundred states are never come to; from the first one on they are.
        self.assertEqual(tabled("[ab]*a[ab]{5}[^\\x00-\\xff]"), NOTHING)
        self.assertEqual(tabled("[ab]*a[ab]{3}[ab]{3}[^\\x00-\\xff]"), NOTHING)
        self.assertEqual(tabled("(:[ab]*a[ab]{3}[ab]{3})[^\\x00-\\xff]"), TOO_MANY)
        self.assertEqual(tabled("[^\\x00-\\xff]|a{49}|b{49}")[:2], [0, 99])
        self.assertEqual(tabled("[^\\x00-\\xff]&a{49}&b{50}"), TOO_MANY)
        self.assertEqual(tabled("(:[^\\x00-\\xff]&a{49})&b{50}"), NOTHING)
        self.assertEqual(tabled("b{50}&a{49}&[^\\x00-\\xff]"), NOTHING)
        self.assertEqual(tabled("(:b{50}&a{49})&[^\\x00-\\xff]"), TOO_MANY)
        self.assertEqual(tabled("b{50}|a{49}|(:.|\\n)*"), ALL_WORDS)
        self.assertEqual(tabled("(:b{50}|a{49})|(:.|\\n)*"), TOO_MANY)


class Refused(unittest.TestCase):
    def test_patterns_of_more_than_200_bytes(self):
        for length in (201, 250, 300):
            for sign in "a^)(*|$":
                self.assertEqual(tabled(sign * length), [9, 1])
        self.assertEqual(tabled("a*" * 100), tabled("a*"))

    def test_a_fault_ahead_of_all_else(self):
        for pattern, rule, place in [
            ("a{2,1}", 2, 4), ("(a", 1, 2), ("~(a)", 4, 1), ("(a)&b", 4, 3), ("^[b-a]", 3, 4), ("a{100}^{101}", 2, 8),
            ("$$)", 1, 2), ("\\b\\B\\c", 1, 5), ("a{100}*b{100}~", 1, 14), ("*", 1, 0), ("a\n", 1, 1),
        ]:
            self.assertEqual(tabled(pattern), fault(rule, place), pattern)

    def test_places_anywhere_in_the_pattern(self):
        for pattern in (
            "^", "$", "\\b", "\\B", "^a", "a$", "a\\bb", "a|\\B", "(:^)", "(a(b($)))", "^{0}", "$*",
            "(:\\b){0,0}", "~^", "~(:a$)",
            "a&$", "[^\\x00-\\xff]^", "[^\\x00-\\xff]&$", "(:.|\\n)*|\\b", "a{0}\\B{0}", "^$",
        ):
            self.assertEqual(tabled(pattern), WITH_PLACES, pattern)

    def test_bytes_are_no_places(self):
        for pattern, sign in [
            ("\\^", "^"), ("\\$", "$"), ("[$]", "$"), ("[\\^]", "^"), ("[\\$]", "$"), ("\\x5e", "^"),
            ("\\x24", "$"), ("b", "b"),
            ("B", "B"), ("[B]", "B"),
        ]:
            self.assertEqual(tabled(pattern), told([sign], [0, 1, 2], [0, 1, 1], [1, 1, 1]), pattern)
        self.assertEqual(tabled("[^$]"), told(["$"], [0, 1, 2], [1, 2, 2], [0, 2, 2]))
        self.assertEqual(tabled("\\\\b"), tabled("[\\\\]b"))

    def test_places_ahead_of_too_many_states(self):
        for pattern in ("^a{100}", "a{100}$", "a{100}|\\b", "a{98}&\\B", "a{100}{100}(:^{0})", "~(:a{99}$)",
                        "(:a{98}){0}$?"):
            self.assertEqual(tabled(pattern), WITH_PLACES, pattern)

    def test_too_many_states(self):
        for pattern in ("a{98}", "a{100}", "a{100}{100}{100}", "[ab]*a[ab]{6}", "~(:a{99})", "(:a{98}){0}",
                        "\\^{98}", "[$]{98}"):
            self.assertEqual(tabled(pattern), TOO_MANY, pattern)


class Time(unittest.TestCase):
    def test_the_time_of_large_tables(self):
        plain = "".join(chr(byte) for byte in range(32, 127) if chr(byte) not in "\\|&~*+?{}.^$()[]")
        for pattern, states in [
            ("|".join(["a{97}"] * 33), 99), ("|".join(["a{0,97}"] * 25), 99), ("a{97}{0}" * 25, 2),
            ("a{0,97}{0}" * 20, 2),
            ("(:" + plain + ")" + "?" * 118, 81), ("(:" + plain + ")" + "{1}" * 39, 81), ("a*" + "{100}" * 39, 2),
            ("(:" * 66 + ")" * 66, 2), ("(:" * 49 + "a" + "*)" * 49, 2), ("a*" * 100, 2), ("a?" * 98, 100),
            ("(:" + plain[:45] + ")*" + "{100}" * 30, 46),
        ]:
            before = time.process_time()
            self.assertEqual(tabled(pattern)[:2], [0, states], pattern)
            self.assertLess(time.process_time() - before, 20, pattern)


if __name__ == "__main__":
    unittest.main()
