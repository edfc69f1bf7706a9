"""The document's promises, each on patterns drawn by a fixed seed, by the calls alone."""

import unittest

from tests.helper import (
    ATOMS, COUNTS, GROUPS, Drawn, counted, cut, differed, everywhere, fitted, found, judged, quoted, replaced,
    replaced_by, tabled,
)

PLACES = [("^", ("begin",)), ("$", ("end",)), ("\\b", ("edge",)), ("\\B", ("no edge",))]
SUBJECTS = [b"", b"a", b"ba", b"ab\nb", b"aab\x00a", b"babba\xff", b"aaaaaaaa", bytes(range(90, 103)), b"\n\n a ab\n"]


def drawn_with_subjects(seed, how_many, fewest):
    drawn = Drawn(seed, ATOMS + PLACES, COUNTS)
    for tried in range(how_many):
        yield drawn.drawn(1 + tried % 3, fewest, 50)[0], list(SUBJECTS[tried % len(SUBJECTS)])


class Promises(unittest.TestCase):
    def test_what_is_found_is_first_then_longest(self):
        for pattern, subject in drawn_with_subjects(20, 300, 0):
            length = len(subject)
            for start in (0, length // 2, length):
                fit = [
                    (i, j) for i in range(start, length + 1) for j in range(i, length + 1)
                    if fitted(pattern, subject, i, j) == [0, 1]
                ]
                answer = found(pattern, subject, start)
                if not fit:
                    self.assertEqual(answer, [9, 5], (pattern, subject))
                else:
                    least = min(i for i, j in fit)
                    self.assertEqual(answer[:3], [0, least, max(j for i, j in fit if i == least)], (pattern, subject))

    def test_groups_lie_in_what_is_found(self):
        for pattern, subject in drawn_with_subjects(21, 300, 1):
            answer = found(pattern, subject)
            if answer == [9, 5]:
                continue
            self.assertEqual([0, answer[3]], judged(pattern))
            rest = answer[4:]
            for group in range(answer[3]):
                if rest.pop(0) == 1:
                    i, j = rest.pop(0), rest.pop(0)
                    self.assertTrue(answer[1] <= i <= j <= answer[2], (pattern, subject))
            self.assertEqual(rest, [])

    def test_all_found_lie_apart_in_order(self):
        for pattern, subject in drawn_with_subjects(22, 400, 0):
            answer = everywhere(pattern, subject)
            self.assertEqual(answer[:2], [0, (len(answer) - 2) // 2])
            spans = list(zip(answer[2::2], answer[3::2]))
            for (i, j), (k, m) in zip(spans, spans[1:]):
                self.assertTrue(i <= j <= k <= m and (j, j) != (k, m), (pattern, subject))
            for i, j in spans:
                self.assertEqual(fitted(pattern, subject, i, j), [0, 1])
                self.assertEqual(found(pattern, subject, i)[:3], [0, i, j])

    def test_what_is_between_and_what_is_found_make_the_subject(self):
        for pattern, subject in drawn_with_subjects(23, 400, 0):
            between, pieces = cut(pattern, subject), everywhere(pattern, subject)
            self.assertEqual(between[1], pieces[1] + 1)
            made = []
            for number in range(between[1]):
                made += subject[between[2 + 2 * number]:between[3 + 2 * number]]
                if number < pieces[1]:
                    made += subject[pieces[2 + 2 * number]:pieces[3 + 2 * number]]
            self.assertEqual(made, subject, pattern)
            self.assertEqual(replaced(pattern, subject, "$0"), replaced_by(subject), pattern)

    def test_tables_differences_and_counts_agree(self):
        drawn = Drawn(24, ATOMS, COUNTS)
        for tried in range(150):
            one, other = drawn.without_groups(tried % 3, 40), drawn.without_groups(tried % 3, 40)
            tables = [tabled(one), tabled(other)]
            answer = differed(one, other)
            if [9, 6] in tables:
                self.assertEqual(answer, [9, 6])
                continue
            self.assertEqual(answer == [9, 7], tables[0] == tables[1], (one, other))
            numbers = [[counted(pattern, length) for length in range(answer[1])] for pattern in (one, other)]
            if answer == [9, 7]:
                self.assertEqual(numbers[0], numbers[1])
                continue
            word = answer[2:]
            self.assertNotEqual(fitted(one, word), fitted(other, word), (one, other))
            # On all shorter words they are the same.
            self.assertEqual(numbers[0], numbers[1], (one, other))

    def test_tables_fit_what_their_patterns_fit(self):
        drawn = Drawn(25, ATOMS, COUNTS)
        for tried in range(200):
            pattern = drawn.drawn(1 + tried % 3, 0, 50)[0]
            answer = tabled(pattern)
            if answer == [9, 6]:
                continue
            for subject in SUBJECTS:
                state = 0
                for byte in subject:
                    state = answer[259 + state * (answer[2] + 1) + 1 + answer[3 + byte]]
                told = [0, answer[259 + state * (answer[2] + 1)]]
                self.assertEqual(told, fitted(pattern, subject), (pattern, subject))

    def test_what_is_quoted_fits_just_itself(self):
        for subject in SUBJECTS:
            pattern = quoted(subject)[2:]
            self.assertEqual(counted(pattern, len(subject)), [0, 1])
            for length in (0, 1, len(subject) + 1, 200):
                self.assertEqual(counted(pattern, length), [0, 1 if length == len(subject) else 0])
            self.assertEqual(found(pattern, subject), [0, 0, len(subject), 0])
            for other in SUBJECTS:
                self.assertEqual(fitted(pattern, other), [0, 1 if other == subject else 0])

    def test_patterns_with_places_have_no_table(self):
        for pattern, subject in drawn_with_subjects(26, 300, 0):
            placed = any(sign in pattern.replace("[^", "[") for sign in ("^", "$", "\\b", "\\B"))
            for answer in (tabled(pattern), differed(pattern, "a"), differed("a", pattern), counted(pattern, 2)):
                self.assertEqual(answer == [9, 5], placed, pattern)


class Groups(unittest.TestCase):
    def test_the_atoms_groups_are_all_bytes(self):
        self.assertEqual(sorted(byte for group in GROUPS for byte in group), list(range(256)))


if __name__ == "__main__":
    unittest.main()
