import unittest

from tests.helper import NOT_PLAIN, SPECIALS, fault, judged, listed

PRINTED = range(32, 127)


class Groups(unittest.TestCase):
    def test_patterns_and_how_many_groups_they_have(self):
        for pattern, groups in [
            ("", 0), ("a", 0), ("abc", 0), ("a|b", 0), ("|", 0), ("&", 0), ("||&&|", 0),
            ("(a)", 1), ("(:a)", 0), ("()", 1), ("(:)", 0), ("(::)", 0), ("(\\:a)", 1),
            ("( :)", 1), ("((a)(b))", 3), ("(a(:b(c)))", 2), ("(:(:a))", 0),
            ("(a|ab)(c|bcd)(d*)", 3), ("(a)*(b){2,3}", 2), ("(|)", 1), ("(:|&~a)", 0),
            ("\\((a)\\)", 1), ("[(](a)[)]", 1), ("[(:]", 0), ("[()]", 0),
        ]:
            self.assertEqual(judged(pattern), [0, groups], pattern)

    def test_groups_that_can_stand_near_a_tilde_or_an_ampersand(self):
        for pattern, groups in [
            ("(a&b)", 1), ("(:a&b)(c)", 1), ("(c)(:a&b)", 1), ("(a)|b&c", 1), ("b&c|(a)", 1),
            ("b&c|(a)|b&c", 1), ("(a&b|(c))", 2), ("(a&b)(a&b)", 2), ("(:a&b|(c))(d)", 2),
            ("~a(b)", 1), ("~a*(b)", 1), ("~a{2}{3}(b)", 1), ("(a)~b", 1), ("~(:a)(b)", 1),
            ("(~a)", 1), ("(a~b&c)", 1), ("~(:a&~b)&c|(d)", 1), ("(~(:a)(b))", 2),
            ("~(:a)|(b)", 1), ("(:(a)|b&c)", 1), ("((a)|b&c)", 2), ("\\~(a)", 1),
            ("[~](a)", 1), ("(a)[&]b", 1), ("(a)\\&b", 1),
        ]:
            self.assertEqual(judged(pattern), [0, groups], pattern)

    def test_32_groups_but_no_33rd(self):
        self.assertEqual(judged("()" * 32), [0, 32])
        self.assertEqual(judged("(" * 32 + ")" * 32), [0, 32])
        self.assertEqual(judged("()" * 32 + "(:a)" * 34), [0, 32])
        self.assertEqual(judged("()" * 31 + "\\([(]()"), [0, 32])
        self.assertEqual(judged("()" * 33), fault(4, 64))
        self.assertEqual(judged("()" * 32 + "("), fault(4, 64))
        self.assertEqual(judged("()" * 32 + "(*"), fault(4, 64))
        self.assertEqual(judged("(" * 33 + ")" * 33), fault(4, 32))
        self.assertEqual(judged("(:a)" * 9 + "()" * 33), fault(4, 100))
        self.assertEqual(judged("()" * 32 + "(:)()"), fault(4, 67))
        self.assertEqual(judged("()" * 40), fault(4, 64))


class Signs(unittest.TestCase):
    def test_each_byte_by_itself(self):
        early = {ord("\\"): 1, ord("["): 1, ord("("): 1, ord("~"): 1}
        for byte in range(256):
            if byte in early:
                answer = fault(1, 1)
            elif byte in listed("|&.^$") or byte in PRINTED and byte not in listed(NOT_PLAIN):
                answer = [0, 0]
            else:
                answer = fault(1, 0)
            self.assertEqual(judged([byte]), answer, byte)

    def test_each_byte_behind_an_atom(self):
        for byte in range(256):
            if byte in listed("\\[({~"):
                answer = fault(1, 2)
            elif byte in listed("})") or byte not in PRINTED:
                answer = fault(1, 1)
            elif byte == ord("]"):
                answer = fault(1, 1)
            else:
                answer = [0, 0]
            self.assertEqual(judged([ord("a"), byte]), answer, byte)

    def test_each_byte_behind_a_tilde(self):
        for byte in range(256):
            if byte == ord("("):
                answer = fault(4, 1)
            elif byte in listed("\\["):
                answer = fault(1, 2)
            elif byte in listed(".^$") or byte in PRINTED and byte not in listed(NOT_PLAIN):
                answer = [0, 0]
            else:
                answer = fault(1, 1)
            self.assertEqual(judged([ord("~"), byte]), answer, byte)

    def test_each_byte_behind_a_backslash(self):
        for byte in range(256):
            if byte in listed(SPECIALS + "ntbB"):
                answer = [0, 0]
            else:
                answer = fault(1, 2 if byte == ord("x") else 1)
            self.assertEqual(judged([ord("\\"), byte]), answer, byte)

    def test_each_byte_as_a_hex_digit(self):
        for byte in range(256):
            good = byte in listed("0123456789abcdefABCDEF")
            for ahead, behind in [("\\x", "0"), ("\\x0", ""), ("[\\x", "0]"), ("[\\x0", "]")]:
                answer = [0, 0] if good else fault(1, len(ahead))
                self.assertEqual(judged(listed(ahead) + [byte] + listed(behind)), answer, byte)

    def test_each_byte_in_a_set(self):
        for byte in range(256):
            if byte == ord("\\"):
                answer = fault(1, 3)
            elif byte == ord("^"):
                answer = fault(1, 2)
            else:
                answer = [0, 0] if byte in PRINTED and byte not in listed("]-") else fault(1, 1)
            self.assertEqual(judged([ord("["), byte, ord("]")]), answer, byte)

    def test_each_byte_behind_another_in_a_set(self):
        for byte in range(256):
            if byte == ord("\\"):
                answer = fault(1, 4)
            elif byte == ord("-"):
                answer = fault(1, 3)
            elif byte == ord("]"):
                answer = fault(1, 3)
            else:
                answer = [0, 0] if byte in PRINTED and byte != ord("^") else fault(1, 2)
            self.assertEqual(judged([ord("["), ord("a"), byte, ord("]")]), answer, byte)

    def test_each_byte_as_the_second_of_an_item(self):
        for byte in range(256):
            if byte not in PRINTED or byte in listed("]-^"):
                answer = fault(1, 3)
            elif byte == ord("\\"):
                answer = fault(3, 3)
            else:
                answer = [0, 0] if byte >= ord("a") else fault(3, 3)
            self.assertEqual(judged([ord("["), ord("a"), ord("-"), byte, ord("]")]), answer, byte)

    def test_each_byte_behind_a_backslash_in_a_set(self):
        for byte in range(256):
            if byte in listed(SPECIALS + "nt"):
                answer = [0, 0]
            else:
                answer = fault(1, 3 if byte == ord("x") else 2)
            self.assertEqual(judged([ord("["), ord("\\"), byte, ord("]")]), answer, byte)

    def test_each_byte_within_a_count(self):
        for byte in range(256):
            if byte in listed("0123456789"):
                answer = [0, 0]
            else:
                answer = fault(1, 2)
            self.assertEqual(judged(listed("a{") + [byte] + listed("}")), answer, byte)
            if byte in listed("0"):
                answer = fault(2, 4)
            elif byte in listed("123456789}"):
                answer = fault(1, 5) if byte == ord("}") else [0, 0]
            else:
                answer = fault(1, 4)
            self.assertEqual(judged(listed("a{1,") + [byte] + listed("}")), answer, byte)
            if byte in listed("0123456789"):
                answer = [0, 0]
            elif byte in listed(",}"):
                answer = [0, 0] if byte == ord(",") else fault(1, 4)
            else:
                answer = fault(1, 3)
            self.assertEqual(judged(listed("a{1") + [byte] + listed("}")), answer, byte)


class FaultsOfRule1(unittest.TestCase):
    def test_a_byte_that_cannot_stand_there(self):
        for pattern, place in [
            ("*", 0), ("a|*", 2), ("a&+", 2), ("(*)", 1), ("(:?)", 2), ("|{1}", 1), ("~*", 1),
            ("~~a", 1), ("a~~b", 2), ("~|a", 1), ("~&a", 1), ("(:~)", 3), ("(a~)", 3), ("~)", 1),
            (")", 0), ("a)", 1), ("(a))", 3), ("(:a)b)c", 5), ("]", 0), ("a]", 1), ("}", 0),
            ("a}", 1), ("{1}", 0), ("a{1}}", 4), ("(:(:)", 5), ("\\d", 1), ("\\ ", 1), ("\\a", 1),
            ("\\X41", 1), ("\\N", 1), ("\\T", 1), ("\\x4g", 3), ("\\xg4", 2), ("\\x:0", 2),
            ("\\x@0", 2), ("\\x`0", 2), ("\\xG0", 2), ("\\x/0", 2), ("a\n", 1), ("a\x1fb", 1),
            ("a\x7fb", 1), ("(a)~&b", 4), ("(a)~|b", 4),
        ]:
            self.assertEqual(judged(pattern), fault(1, place), pattern)

    def test_a_pattern_that_ends_too_early(self):
        for pattern in [
            "(", "(:", "(a", "(:a", "((a)", "(a|", "(a&", "(a*", "(:(:a)", "[", "[^", "[a", "[^a",
            "[a-", "[a-z", "[\\", "[\\x", "[\\x4", "[a-\\", "[a-\\x", "[a-\\x4", "\\", "\\x", "\\x4",
            "a\\", "~", "a~", "a|~", "a&~", "a{", "a{1", "a{1,", "a{1,2", "a{0", "a{0,0", "a{100",
            "a{100,100", "(:~", "~(:", "~(:a", "a&(:", "(:" * 100, "(" * 32,
        ]:
            self.assertEqual(judged(pattern), fault(1, len(pattern)), pattern)

    def test_counts(self):
        for pattern, place in [
            ("a{}", 2), ("a{,}", 2), ("a{,3}", 2), ("a{ 1}", 2), ("a{1 }", 3), ("a{1, 2}", 4),
            ("a{1,2,}", 5), ("a{1,2 }", 5), ("a{1,,2}", 4), ("a{-1}", 2), ("a{a}", 2), ("a{1a}", 3),
            ("a{/}", 2), ("a{:}", 2), ("a{1:}", 3), ("a{1/}", 3), ("a{{1}", 2), ("a{1*", 3),
        ]:
            self.assertEqual(judged(pattern), fault(1, place), pattern)

    def test_a_0_ahead_of_a_digit(self):
        for pattern, place in [
            ("a{00}", 3), ("a{01}", 3), ("a{09", 3), ("a{000}", 3), ("a{0100}", 3), ("a{0999}", 3),
            ("a{0,00}", 5), ("a{0,01}", 5), ("a{5,05}", 5), ("a{5,00}", 5), ("a{5,0101}", 5),
            ("a{00,1}", 3), ("a{1}{00}", 6),
        ]:
            self.assertEqual(judged(pattern), fault(1, place), pattern)

    def test_numbers_with_a_0_that_is_not_ahead(self):
        for pattern in ["a{0}", "a{0,}", "a{0,0}", "a{10}", "a{20,30}", "a{100}", "a{0,100}", "a{10,}"]:
            self.assertEqual(judged(pattern), [0, 0], pattern)

    def test_sets(self):
        for pattern, place in [
            ("[]", 1), ("[]a]", 1), ("[^]", 2), ("[^]a]", 2), ("[^^]", 2), ("[a^]", 2), ("[-]", 1),
            ("[-a]", 1), ("[^-a]", 2), ("[a-]", 3), ("[a--]", 3), ("[a-^]", 3), ("[a-b-c]", 4),
            ("[a-b-]", 4), ("[\\b]", 2), ("[\\B]", 2), ("[\\d]", 2), ("[\\x4]", 4), ("[\\x]", 3),
            ("[a\n]", 2), ("[a\x80]", 2), ("[a-\x80]", 3), ("[\\\n]", 2), ("[a-\\b]", 4),
            ("[z-\\x4g]", 6), ("[]]", 1), ("[a]]", 3), ("[^a^]", 3),
        ]:
            self.assertEqual(judged(pattern), fault(1, place), pattern)

    def test_sets_that_are_right(self):
        for pattern in [
            "[a]", "[^a]", "[ab]", "[a-z]", "[a-a]", "[^a-z0-9_]", "[\\^]", "[^\\^]", "[\\-]", "[a\\-]",
            "[!-\\-]", "[\\]]", "[[]", "[a-z]", "[\\\\]", "[\\x00-\\xff]", "[\\t-\\n]",
            "[:]", "[.|&~*+?{}$()]", "[ -~]", "[,-\\-]", "[\\x5A-\\x5a]", "[a-cb-d]",
        ]:
            self.assertEqual(judged(pattern), [0, 0], pattern)


class FaultsOfRule2(unittest.TestCase):
    def test_a_number_above_100(self):
        for pattern, place in [
            ("a{101}", 2), ("a{200}", 2), ("a{1000}", 2), ("a{101,}", 2), ("a{101,102}", 2),
            ("a{101,5}", 2), ("a{1,101}", 4), ("a{50,101}", 5), ("a{100,101}", 6), ("a{1}{101}", 5),
            ("a{" + "9" * 190 + "}", 2), ("a{0,110}", 4), ("(a)(:b{101})", 7),
        ]:
            self.assertEqual(judged(pattern), fault(2, place), pattern)

    def test_a_second_number_below_the_first(self):
        for pattern, place in [
            ("a{2,1}", 4), ("a{1,0}", 4), ("a{100,99}", 6), ("a{10,9}", 5), ("a{2}{3,2}", 7),
        ]:
            self.assertEqual(judged(pattern), fault(2, place), pattern)

    def test_numbers_that_may_be(self):
        for pattern in ["a{100}", "a{1,1}", "a{9,10}", "a{99,100}", "a{100,100}", "a{100,}", "a{2,10}"]:
            self.assertEqual(judged(pattern), [0, 0], pattern)

    def test_it_is_told_where_the_number_begins_whatever_follows(self):
        for pattern, place in [
            ("a{101", 2), ("a{1000x", 2), ("a{101,01}", 2), ("a{5,1", 4), ("a{5,1x", 4), ("a{5,101", 4),
        ]:
            self.assertEqual(judged(pattern), fault(2, place), pattern)


class FaultsOfRule3(unittest.TestCase):
    def test_an_item_whose_second_byte_is_below_the_first(self):
        for pattern, place in [
            ("[b-a]", 3), ("[^b-a]", 4), ("[ab-a]", 4), ("[a-zb-a]", 6), ("[a-\\n]", 3), ("[a-\\-]", 3),
            ("[\\x5a-\\x41]", 6), ("[\\x5a-A]", 6), ("[z-\\x41]", 3), ("[\\n-\\t]", 4), ("x[~- ]", 4),
            ("[b-a", 3), ("[z-\\x41", 3), ("[b-a)", 3), ("[\\xff-\\xfe]", 6),
        ]:
            self.assertEqual(judged(pattern), fault(3, place), pattern)


class FaultsOfRule4(unittest.TestCase):
    def test_in_what_a_tilde_is_for(self):
        for pattern, place in [
            ("~(a)", 1), ("~(", 1), ("~((", 1), ("~()", 1), ("~(:(a))", 3), ("~(:(", 3), ("~(:a(b))", 4),
            ("~(:a|(b))", 5), ("~(:(:(a)))", 5), ("a~(b)", 2), ("~a~(b)", 3), ("(a)~(b)", 4),
            ("~(:a~b(c))", 6), ("(~(:b(c)))", 5), ("~(\xff", 1), ("~(\\:)", 1), ("~(a)*", 1),
        ]:
            self.assertEqual(judged(pattern), fault(4, place), pattern)

    def test_in_a_part_behind_an_ampersand(self):
        for pattern, place in [
            ("a&(b)", 2), ("a&(", 2), ("&(", 1), ("a&b(c)", 3), ("a&(:(b))", 4), ("a&(:(", 4),
            ("a&(:b|(c))", 6), ("a&b&(c)", 4), ("(a&(b))", 3), ("x|a&(b)", 4), ("(:a&(b))", 4),
            ("a&(:b|c&d|(e))", 10), ("(a)|b&(c)", 6),
        ]:
            self.assertEqual(judged(pattern), fault(4, place), pattern)

    def test_in_a_part_with_an_ampersand_behind_it_told_at_the_ampersand(self):
        for pattern, place in [
            ("(a)&b", 3), ("(a)&", 3), ("(a)b&c", 4), ("b(a)&c", 4), ("(:(a))&b", 6), ("((a)&b)", 4),
            ("(a&b)&c", 5), ("x|(a)&b", 5), ("(:(a)|b)&c", 8), ("(a)*&b", 4), ("(a)&(b)", 3),
            ("(a)b{2}|(c)&d", 11), ("(a)&*", 3), ("(:x|(a)&b", 7), ("()&", 2),
        ]:
            self.assertEqual(judged(pattern), fault(4, place), pattern)

    def test_a_bracket_with_a_colon_is_no_group(self):
        for pattern in ["~(:a)", "a&(:b)", "(:a)&b", "~(:~(:a)&(:b))&(:c)*"]:
            self.assertEqual(judged(pattern), [0, 0], pattern)


class TheFirstFault(unittest.TestCase):
    def test_the_first_by_places_is_told(self):
        for pattern, rule, place in [
            ("~(a)*)", 4, 1), ("a{2,1}~(a)", 2, 4), ("[b-a]a{101}", 3, 3), ("a{101}[b-a]", 2, 2),
            ("(a)&b)", 4, 3), ("(a))&b", 1, 3), ("*(a)&b", 1, 0), ("[b-a]&(", 3, 3), ("~(a", 4, 1),
            ("(a{2,1})&b", 2, 5), ("(a)&b{2,1}", 4, 3), ("a&([b-a])", 4, 2),
        ]:
            self.assertEqual(judged(pattern), fault(rule, place), pattern)


class Lengths(unittest.TestCase):
    def test_200_bytes_are_a_pattern_and_more_are_refused(self):
        self.assertEqual(judged("a" * 200), [0, 0])
        self.assertEqual(judged("(" + "a" * 198 + ")"), [0, 1])
        self.assertEqual(judged("|" * 200), [0, 0])
        self.assertEqual(judged("(:" * 66 + ")" * 66), [0, 0])
        self.assertEqual(judged("a" * 199 + "("), fault(1, 200))
        self.assertEqual(judged("a" * 199 + ")"), fault(1, 199))
        for length in (201, 202, 299, 300):
            self.assertEqual(judged("a" * length), [9, 1])
            self.assertEqual(judged(")" * length), [9, 1])


if __name__ == "__main__":
    unittest.main()
