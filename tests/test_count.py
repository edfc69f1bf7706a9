import itertools
import unittest

from tests.helper import ATOMS, COUNTS, GROUPS, Drawn, counted, fault, fitted, tabled

LARGEST = 4294967295
TOO_MANY = [9, 6]


class Count(unittest.TestCase):
    def check(self, pattern, *numbers):
        """The pattern fits so many words of the lengths 0, 1, 2 and so on."""
        for length, number in enumerate(numbers):
            self.assertEqual(counted(pattern, length), [0, number], (pattern, length))

    def test_the_example(self):
        self.assertEqual(counted("a*", 3), [0, 1])

    def test_words_of_no_byte(self):
        for pattern in ("", "a*", "a?", "~a", "(:.|\\n)*", "a{0}", "|a", "~(:.+)"):
            self.assertEqual(counted(pattern, 0), [0, 1])
        for pattern in ("a", "a+", "~(:a*)", "[^\\x00-\\xff]", "a{97}", "~(:a|)"):
            self.assertEqual(counted(pattern, 0), [0, 0])

    def test_words_of_some_bytes(self):
        self.check("", 1, 0, 0, 0)
        self.check("a", 0, 1, 0, 0)
        self.check("[a-z]", 0, 26, 0)
        self.check(".", 0, 255, 0)
        self.check("[^ab]", 0, 254, 0)
        self.check(".{2}", 0, 0, 255 ** 2, 0)
        self.check("~a", 1, 255, 256 ** 2, 256 ** 3)
        self.check("a|bc|de|fgh", 0, 1, 2, 1, 0)
        self.check("(:a|bb)*", 1, 1, 2, 3, 5, 8, 13, 21, 34, 55)
        self.check("[ab]*a[ab]{2}", 0, 0, 0, 4, 8, 16, 32)
        self.check("[a-z]+&~(:if)", 0, 26, 26 ** 2 - 1, 26 ** 3)
        self.check("(:[\\x00-\\x7f]|[\\x80-\\xff][\\x00-\\xff])*", 1, 128, 128 ** 2 + 128 * 256)

    def test_words_are_counted_once_however_often_they_fit(self):
        self.check("a|a|a", 0, 1, 0)
        self.check("(:a|aa)*", 1, 1, 1, 1, 1)
        self.check("a*a*a*", 1, 1, 1, 1, 1)
        self.check("(:a|ab)(:c|bcd)(:d*)", 0, 0, 1, 2, 2, 3, 3, 3)

    def test_words_of_many_bytes(self):
        self.assertEqual(counted("(:.|\\n)*", 200), [0, 256 ** 200])
        self.assertEqual(counted(".*", 200), [0, 255 ** 200])
        self.assertEqual(counted("[ab]*", 200), [0, 2 ** 200])
        self.assertEqual(counted("a*", 200), [0, 1])
        self.assertEqual(counted("a*", 199), [0, 1])
        self.assertEqual(counted("~(:a*)", 200), [0, 256 ** 200 - 1])
        self.assertEqual(counted("(:ab)*", 199), [0, 0])
        self.assertEqual(counted("(:[ab]c)*", 200), [0, 2 ** 100])
        self.assertEqual(counted("a*b[^\\x00-\\xff]|c*", 200), [0, 1])
        self.assertEqual(counted("[ab]*a[ab]{5}", 200), [0, 2 ** 199])
        self.assertEqual(counted("[^a]{97}", 97), [0, 255 ** 97])
        self.assertEqual(counted("[^a]{97}", 96), [0, 0])
        self.assertEqual(counted("[^a]{97}", 98), [0, 0])

    def test_a_pattern_that_fits_nothing(self):
        for pattern in ("[^\\x00-\\xff]", "a&b", "~(:.|\\n)*", "a&aa"):
            for length in (0, 1, 2, 3, 100, 200):
                self.assertEqual(counted(pattern, length), [0, 0])

    def test_all_words_of_no_and_one_byte(self):
        drawn = Drawn(11, ATOMS, COUNTS)
        for tried in range(60):
            text = drawn.drawn(1 + tried % 3, 0, 50)[0]
            if tabled(text) != TOO_MANY:
                self.assertEqual([0, fitted(text, "")[1]], counted(text, 0), text)
                self.assertEqual([0, sum(fitted(text, [byte])[1] for byte in range(256))], counted(text, 1), text)

    def test_words_of_more_bytes_by_their_groups(self):
        drawn = Drawn(12, ATOMS, COUNTS)
        for tried in range(80):
            text = drawn.drawn(1 + tried % 3, 0, 50)[0]
            if tabled(text) == TOO_MANY:
                continue
            for length in (2, 3):
                number = 0
                for groups in itertools.product(GROUPS, repeat=length):
                    of_such = 1
                    for group in groups:
                        of_such *= len(group)
                    number += of_such * fitted(text, [group[0] for group in groups])[1]
                self.assertEqual(counted(text, length), [0, number], (text, length))

    def test_sums(self):
        drawn = Drawn(13, ATOMS, COUNTS)
        for tried in range(90):
            one, other = [drawn.without_groups(tried % 3, 40) for pattern in range(2)]
            patterns = [pattern.replace("P", one).replace("Q", other) for pattern in (
                "(:P)", "(:Q)", "(:P)|(:Q)", "(:P)&(:Q)", "~(:P)", "(:P)&~(:Q)", "[\\x00-\\xff](:P)",
            )]
            if TOO_MANY in [tabled(pattern) for pattern in patterns]:
                continue
            lengths = (0, 1, 2, 7, 40, 199)
            first, second, either, both, turned, without, longer = [
                [counted(pattern, length)[1] for length in lengths] for pattern in patterns
            ]
            for place, length in enumerate(lengths):
                self.assertEqual(either[place] + both[place], first[place] + second[place], (one, other, length))
                self.assertEqual(first[place] + turned[place], 256 ** length, (one, length))
                self.assertEqual(without[place] + both[place], first[place], (one, other, length))
                self.assertEqual(counted(patterns[6], length + 1), [0, 256 * first[place]], (one, length))


class Refused(unittest.TestCase):
    def test_lengths_above_200(self):
        for length in (201, 202, 256, LARGEST - 1, LARGEST):
            for pattern in ("a*", "", "a{2,1}", "(", "^", "a{98}", "a" * 201):
                self.assertEqual(counted(pattern, length), [9, 1], (pattern, length))

    def test_patterns_of_more_than_200_bytes(self):
        for length in (201, 300):
            for sign in "a(^*":
                for number in (0, 1, 200):
                    self.assertEqual(counted(sign * length, number), [9, 1])
        self.assertEqual(counted("a*" * 100, 200), [0, 1])

    def test_a_fault_ahead_of_all_else(self):
        for pattern, rule, place in [
            ("(^a{100}", 1, 8), ("a{2,1}", 2, 4), ("~(a)", 4, 1), ("[b-a]$", 3, 3), ("a{98}&&)", 1, 7),
        ]:
            for length in (0, 1, 200):
                self.assertEqual(counted(pattern, length), fault(rule, place), pattern)

    def test_places_ahead_of_too_many_states(self):
        for pattern in ("^", "$", "\\b", "\\B", "a{100}$", "\\b{0}", "~(:\\B)a{99}", "a|^"):
            for length in (0, 1, 200):
                self.assertEqual(counted(pattern, length), [9, 5], pattern)

    def test_too_many_states(self):
        for pattern in ("a{98}", "[ab]*a[ab]{6}", "(:a{100}){0}", "~(:a{98})"):
            for length in (0, 1, 200):
                self.assertEqual(counted(pattern, length), TOO_MANY, pattern)


if __name__ == "__main__":
    unittest.main()
