import unittest

from patternmeans.patterns import fits
from tests.helper import NOT_PLAIN, fitted, judged, listed, members, quoted, replaced_by, tabled

SUBJECTS = [
    "", "a", "a.b\n", "\n\t\\n", "a-b:c", "(a|b)*", "\\x41", "[^a]{2,3}", "$0 & ~1", "\x00\x7f\x80\xff", "a" * 50,
    "\n" * 50, "." * 50, [0] * 50, list(range(50)), list(range(30, 80)), list(range(80, 130)), list(range(206, 256)),
]


class Quote(unittest.TestCase):
    def check(self, subject, pattern):
        self.assertEqual(quoted(subject), replaced_by(pattern), subject)

    def test_the_example(self):
        self.assertEqual(quoted("a.b\n"), [0, 6, 97, 92, 46, 98, 92, 110])
        self.check("a.b\n", "a\\.b\\n")

    def test_the_empty_subject(self):
        self.assertEqual(quoted(""), [0, 0])

    def test_plain_bytes_stay_as_they_are(self):
        plain = "".join(chr(byte) for byte in range(32, 127) if chr(byte) not in NOT_PLAIN)
        self.check(plain, plain)
        self.check("-:,<>@ aZ09_'\"%/;=!#`", "-:,<>@ aZ09_'\"%/;=!#`")

    def test_specials_that_are_not_plain(self):
        self.check(NOT_PLAIN, "".join("\\" + sign for sign in NOT_PLAIN))
        self.check("\\|&~*+?{}.^$()[]", "\\\\\\|\\&\\~\\*\\+\\?\\{\\}\\.\\^\\$\\(\\)\\[\\]")

    def test_bytes_that_no_pattern_may_have(self):
        self.check("\n\t", "\\n\\t")
        self.check([0, 1, 8, 11, 31], "\\x00\\x01\\x08\\x0b\\x1f")
        self.check([127, 128, 160, 171, 205, 239, 255], "\\x7f\\x80\\xa0\\xab\\xcd\\xef\\xff")

    def test_each_byte_by_itself(self):
        for byte in range(256):
            sign = chr(byte)
            pattern = f"\\x{byte:02x}"
            if 32 <= byte <= 126:
                pattern = "\\" + sign if sign in NOT_PLAIN else sign
            elif sign in "\n\t":
                pattern = "\\n" if sign == "\n" else "\\t"
            self.check([byte], pattern)
            self.assertEqual(members(pattern), [byte])
            self.assertEqual(fitted(pattern, ""), [0, 0])
            self.assertEqual(fitted(pattern, [byte, byte]), [0, 0])

    def test_byte_by_byte(self):
        for subject in (*SUBJECTS, list(range(200)), list(range(56, 256))):
            each = [sign for byte in listed(subject) for sign in quoted([byte])[2:]]
            self.assertEqual(quoted(subject), [0, len(each), *each])

    def test_long_subjects(self):
        self.check("a" * 200, "a" * 200)
        self.check("." * 200, "\\." * 200)
        self.check([255] * 200, "\\xff" * 200)
        self.check([0] * 199 + [10], "\\x00" * 199 + "\\n")
        for length in (201, 250, 300):
            for sign in "a\n\x00":
                self.assertEqual(quoted(sign * length), [9, 1])

    def test_what_is_quoted_fits_just_itself(self):
        for subject in SUBJECTS:
            subject = listed(subject)
            answer = quoted(subject)
            pattern = answer[2:]
            self.assertLessEqual(len(pattern), 200)
            self.assertEqual(answer[:2], [0, len(pattern)])
            self.assertEqual(judged(pattern), [0, 0])
            self.assertEqual(fitted(pattern, subject), [0, 1])
            self.assertEqual(fitted(pattern, subject + [97]), [0, 0])
            self.assertEqual(fitted(pattern, [10] + subject), [0, 0])
            for place, byte in enumerate(subject):
                without = subject[:place] + subject[place + 1:]
                self.assertEqual(fitted(pattern, without), [0, 0])
                for other in (byte ^ 1, byte ^ 32, byte ^ 128, 255 - byte):
                    changed = subject[:place] + [other] + subject[place + 1:]
                    self.assertEqual(fitted(pattern, changed), [0, 0], (subject, place, other))

    def test_what_is_quoted_fits_within_more(self):
        for subject in SUBJECTS:
            within = listed("xx") + listed(subject) + listed("yy")
            pattern = quoted(subject)[2:]
            self.assertEqual(fits(2, len(within) - 2, pattern, within), [0, 1])
            self.assertEqual(fits(1, len(within) - 2, pattern, within), [0, 0])
            self.assertEqual(fits(2, len(within) - 1, pattern, within), [0, 0])

    def test_the_table_of_what_is_quoted_has_a_state_for_each_byte_and_two_more(self):
        for subject in SUBJECTS:
            subject = listed(subject)
            answer = tabled(quoted(subject)[2:])
            self.assertEqual(answer[:3], [0, len(subject) + 2, len(set(subject)) + 1])


if __name__ == "__main__":
    unittest.main()
