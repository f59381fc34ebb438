"""Each kind of token: how far it goes, what is right, and the faults."""

import unittest

from tests.helper import KEYWORDS, SIGNS, coded, spelled_tokens, tokens_of
from twigtext.calls import tokens


class TokenTest(unittest.TestCase):
    def is_one(self, kind, words):
        self.assertEqual(tokens(coded(words)), [0, 1, kind, 0, len(words)], words)

    def is_cut(self, words, *spelled):
        self.assertEqual(spelled_tokens(words), list(spelled), words)

    def is_fault(self, words, rule, place):
        self.assertEqual(tokens(coded(words)), [-2, rule, place], words)


class Nothing(TokenTest):
    def test_blanks_line_ends_and_semicolons_count_for_nothing(self):
        self.assertEqual(tokens(coded(" \n;;\n  ")), [0, 0])
        self.assertEqual(tokens_of(" a;b\nc ;"), [(1, 1, 2), (1, 3, 4), (1, 5, 6)])

    def test_a_comment_ends_with_a_line_end_or_the_text(self):
        self.assertEqual(tokens_of("# a ! \" # ~\nb"), [(1, 12, 13)])
        self.assertEqual(tokens_of("b# a"), [(1, 0, 1)])
        self.assertEqual(tokens_of("#"), [])
        self.assertEqual(tokens_of("#\n#\n"), [])

    def test_bytes_that_may_not_be_in_a_text(self):
        for byte in list(range(0, 32)) + list(range(127, 256)):
            if byte == 10:
                continue
            with self.subTest(byte):
                self.assertEqual(tokens([byte]), [-2, 1, 0])
                self.assertEqual(tokens([97, 32, byte, 98]), [-2, 1, 2])
                self.assertEqual(tokens([97, byte]), [-2, 1, 1])
                self.assertEqual(tokens(coded("a # b") + [byte] + coded("\n!")), [-2, 1, 5])
                self.assertEqual(tokens(coded('a "b') + [byte] + coded('"')), [-2, 1, 4])

    def test_bytes_that_can_not_begin_a_token(self):
        for sign in "!$&'?@\\_`|~":
            with self.subTest(sign):
                self.is_fault(sign, 1, 0)
                self.is_fault(f"a {sign} b", 1, 2)
                self.is_fault(f"({sign}", 1, 1)

    def test_each_byte_behind_a_word_a_code_a_number(self):
        """It goes on with the token, or a token of its own begins, or it's nothing, or a fault at its place."""
        small, capital, digits = "abcdefghijklmnopqrstuvwxyz", "ABCDEFGHIJKLMNOPQRSTUVWXYZ", "0123456789"
        for start, goes_on in (("zz", small + digits + "_"), ("ZZ", capital + digits), ("77", digits + "mxdship")):
            for byte in range(256):
                answer = tokens(coded(start) + [byte])
                alone = tokens([byte])
                if byte in coded(goes_on):
                    self.assertEqual(answer, [0, 1, answer[2], 0, 3], (start, byte))
                elif start == "77" and byte in coded(small + capital + "_"):
                    self.assertEqual(answer, [-2, 1, 0], (start, byte))
                elif alone[0] == 0:
                    self.assertEqual(answer[1:2] + answer[3:5], [1 + alone[1], 0, 2], (start, byte))
                else:
                    self.assertEqual(answer, alone[:2] + [alone[2] + 2], (start, byte))

    def test_neighbours_of_letters_and_digits_begin_no_token(self):
        for sign in "@`|~_$":
            self.is_fault(sign + "AB", 1, 0)
            self.is_fault(sign + "ab", 1, 0)
        self.is_cut("[AB", (5, "["), (2, "AB"))
        self.is_cut("{ab", (5, "{"), (1, "ab"))
        self.is_cut("/12", (5, "/"), (3, "12"))
        self.is_cut(":12", (5, ":"), (3, "12"))

    def test_each_byte_alone(self):
        alone = {10: [0, 0], 32: [0, 0], 34: [-2, 3, 1], 35: [0, 0], 59: [0, 0]}
        for byte in coded("()[]{},:.=<>+-*/%^"):
            alone[byte] = [0, 1, 5, 0, 1]
        for byte in coded("abcdefghijklmnopqrstuvwxyz"):
            alone[byte] = [0, 1, 1, 0, 1]
        for byte in coded("0123456789"):
            alone[byte] = [0, 1, 3, 0, 1]
        for byte in range(256):
            self.assertEqual(tokens([byte]), alone.get(byte, [-2, 1, 0]), byte)


class Words(TokenTest):
    def test_names(self):
        for word in ("a", "z9", "a_b", "a__", "z_0_9", "lets", "let_", "let1", "modul", "e5", "nearr"):
            with self.subTest(word):
                self.is_one(1, word)

    def test_names_of_31_and_of_32_bytes(self):
        self.is_one(1, "a" * 31)
        self.is_one(1, "a" + "9_" * 15)
        self.is_fault("a" * 32, 1, 0)
        self.is_fault("b " + "a_" * 16, 1, 2)
        self.is_fault("b (" + "a" * 5000 + "!", 1, 3)

    def test_each_keyword(self):
        self.assertEqual(len(KEYWORDS), 80)
        for word in KEYWORDS:
            with self.subTest(word):
                self.is_one(0, word)
                self.is_one(1, word + "_")
                self.is_one(1, word + "0")
                self.is_one(1, "q" + word)

    def test_a_word_ends_where_another_byte_stands(self):
        self.is_cut("aB1", (1, "a"), (2, "B1"))
        self.is_cut("let(", (0, "let"), (5, "("))
        self.is_cut("a-b", (1, "a"), (5, "-"), (1, "b"))
        self.is_cut('a"b"', (1, "a"), (4, '"b"'))


class Codes(TokenTest):
    def test_codes_of_1_2_8_and_9_bytes(self):
        self.is_fault("A", 1, 0)
        self.is_one(2, "AB")
        self.is_one(2, "A0")
        self.is_one(2, "Z2345678")
        self.is_one(2, "ABCDEFGH")
        self.is_fault("ABCDEFGHI", 1, 0)
        self.is_fault("a B ", 1, 2)
        self.is_fault("a B12345678", 1, 2)

    def test_a_code_ends_where_another_byte_stands(self):
        self.is_cut("ABc", (2, "AB"), (1, "c"))
        self.is_fault("Ab", 1, 0)
        self.is_fault("AB_", 1, 2)


class Numbers(TokenTest):
    def test_without_point_and_exponent(self):
        for mark in ("", "m", "x", "d", "s", "h", "i", "p"):
            for digits in ("0", "1", "10", "907"):
                with self.subTest(digits + mark):
                    self.is_one(3, digits + mark)

    def test_with_point(self):
        for mark in ("", "m", "x", "d", "s", "h", "i"):
            for digits in ("0.0", "1.50", "10.001", "0.00"):
                with self.subTest(digits + mark):
                    self.is_one(3, digits + mark)

    def test_with_exponent(self):
        for mark in ("m", "x", "d", "s", "h", "i"):
            for digits in ("1e0", "0e5", "1e10", "1e-1", "1e12345", "1e-99999", "1.5e3", "0.0e-7"):
                with self.subTest(digits + mark):
                    self.is_one(3, digits + mark)

    def test_other_marks(self):
        for mark in ("a", "e", "f", "_", "mm", "md", "M", "D", "P", "x1", "d_", "pp", "0p_", "E5d", "e5e6d"):
            with self.subTest(mark):
                self.is_fault(f"1{mark}", 1, 0)
                self.is_fault(f"(1.5{mark})", 1, 1)
                self.is_fault(f"1e5{mark}0", 1, 0)

    def test_each_byte_as_a_mark(self):
        for byte in coded("abcdefghijklmnopqrstuvwxyzABCDEFGHIJKLMNOPQRSTUVWXYZ_"):
            right = byte in coded("mxdship")
            self.assertEqual(tokens([49, byte]), [0, 1, 3, 0, 2] if right else [-2, 1, 0], byte)

    def test_no_0_in_front_of_another_digit(self):
        for wrong in ("00", "01", "007", "00.5", "01.5", "00m", "01d", "01e5d", "00.5e5d"):
            with self.subTest(wrong):
                self.is_fault(wrong, 1, 0)

    def test_of_mark_p_digits_alone_1_to_31_of_them(self):
        for right in ("0p", "00p", "007p", "9" * 31 + "p", "0" * 31 + "p"):
            with self.subTest(right):
                self.is_one(3, right)
        for wrong in ("9" * 32 + "p", "1.5p", "1e5p", "1.5e5p", "0.0p"):
            with self.subTest(wrong):
                self.is_fault(wrong, 1, 0)

    def test_exponents_that_are_not_right(self):
        for exponent in ("e00", "e01", "e-0", "e-00", "e-01", "e123456", "e-123456", "e000000"):
            with self.subTest(exponent):
                self.is_fault(f"1{exponent}d", 1, 0)
                self.is_fault(f"1.5{exponent}d", 1, 0)

    def test_an_exponent_asks_for_a_mark(self):
        for wrong in ("1e5", "1e0", "1e-5", "1.5e5", "1e5 d"):
            with self.subTest(wrong):
                self.is_fault(wrong, 1, 0)

    def test_what_is_no_exponent_is_a_mark(self):
        for wrong in ("1e", "1e-", "1e-d", "1e+5d", "1ed", "1.5e"):
            with self.subTest(wrong):
                self.is_fault(wrong, 1, 0)

    def test_a_point_without_a_digit_is_none_of_the_number(self):
        self.is_cut("1.", (3, "1"), (5, "."))
        self.is_cut("1..2", (3, "1"), (5, ".."), (3, "2"))
        self.is_cut("1.a", (3, "1"), (5, "."), (1, "a"))
        self.is_cut("1.5.2", (3, "1.5"), (5, "."), (3, "2"))
        self.is_cut("1m.5", (3, "1m"), (5, "."), (3, "5"))
        self.is_cut("1.5..2.5", (3, "1.5"), (5, ".."), (3, "2.5"))
        self.is_cut("1e5d.5", (3, "1e5d"), (5, "."), (3, "5"))

    def test_a_number_ends_where_another_byte_stands(self):
        self.is_cut("1-2", (3, "1"), (5, "-"), (3, "2"))
        self.is_cut('1"a"', (3, "1"), (4, '"a"'))
        self.is_cut("1d-5", (3, "1d"), (5, "-"), (3, "5"))

    def test_numbers_of_255_and_of_256_bytes(self):
        self.is_one(3, "1" * 255)
        self.is_fault("1" * 256, 1, 0)
        self.is_one(3, "1" * 254 + "m")
        self.is_fault("1" * 255 + "m", 1, 0)
        self.is_one(3, "0." + "5" * 253)
        self.is_fault("0." + "5" * 254, 1, 0)
        self.is_one(3, "1." + "5" * 245 + "e-12345d")
        self.is_fault("1." + "5" * 246 + "e-12345d", 1, 0)
        self.is_fault("a " + "1" * 60000, 1, 2)


class Texts(TokenTest):
    def test_texts(self):
        for right in ('""', '"a"', '" !#~"', '"\\""', '"\\\\"', '"\\n"', '"a\\"b\\\\c\\nd"', '"#;"', '"\\\\\\""'):
            with self.subTest(right):
                self.is_one(4, right)
        self.is_cut('"a""b"', (4, '"a"'), (4, '"b"'))
        self.is_cut('"\\\\"a', (4, '"\\\\"'), (1, "a"))

    def test_each_byte_within_a_text(self):
        for byte in range(256):
            answer = tokens([34, 97, byte, 98, 34])
            if byte == 34:
                self.assertEqual(answer, [-2, 3, 5], byte)
            elif 32 <= byte <= 126 and byte != 92:
                self.assertEqual(answer, [0, 1, 4, 0, 5], byte)
            else:
                self.assertEqual(answer, [-2, 1, 2], byte)

    def test_each_byte_behind_a_backslash(self):
        for byte in range(256):
            answer = tokens([34, 97, 92, byte, 98, 34])
            right = byte in (34, 92, 110)
            self.assertEqual(answer, [0, 1, 4, 0, 6] if right else [-2, 1, 2], byte)

    def test_a_line_end_in_a_text(self):
        self.is_fault('"a\nb"', 1, 2)
        self.is_fault('a "\n', 1, 3)

    def test_a_text_without_its_closing_quote(self):
        for wrong in ('"', '"a', '"a\\"', '"\\', '"a\\', 'b "a\\n', 'b "a # ;', '"\\\\\\'):
            with self.subTest(wrong):
                self.is_fault(wrong, 3, len(wrong))

    def test_texts_of_1024_and_of_1025_items(self):
        for item in ("a", "\\n", '\\"', "\\\\"):
            with self.subTest(item):
                full = '"' + item * 1024
                self.is_one(4, full + '"')
                self.is_fault(full + item + '"', 1, len(full))
                self.is_fault("b " + full + item, 1, 2 + len(full))
                self.is_fault(full, 3, len(full))

    def test_behind_1024_items_anything_but_a_quote_is_a_fault_there(self):
        full = '"' + "a" * 1024
        for wrong in ("\\", "\\q", "\\\\", "\n", "\x00", "\xff", " ", "#"):
            with self.subTest(wrong):
                self.is_fault(full + wrong, 1, 1025)
                self.is_fault(full + wrong + '"', 1, 1025)

    def test_behind_1023_items_a_backslash_may_be_an_item(self):
        nearly = '"' + "a" * 1023
        self.is_fault(nearly + "\\", 3, 1025)
        self.is_fault(nearly + "\\q", 1, 1024)
        self.is_fault(nearly + "\\n", 3, 1026)
        self.is_one(4, nearly + '\\n"')


class Signs(TokenTest):
    def test_each_sign(self):
        self.assertEqual(len(SIGNS), 25)
        for sign in SIGNS:
            with self.subTest(sign):
                self.is_one(5, sign)
                self.is_cut(f"a{sign}b", (1, "a"), (5, sign), (1, "b"))

    def test_the_longest_sign_is_taken(self):
        self.is_cut("...", (5, ".."), (5, "."))
        self.is_cut("....", (5, ".."), (5, ".."))
        self.is_cut("===", (5, "=="), (5, "="))
        self.is_cut("!==", (5, "!="), (5, "="))
        self.is_cut("<==", (5, "<="), (5, "="))
        self.is_cut(">>=", (5, ">"), (5, ">="))
        self.is_cut("=<", (5, "="), (5, "<"))
        self.is_cut("<-", (5, "<"), (5, "-"))
        self.is_cut("-->", (5, "-"), (5, "->"))
        self.is_cut("->>", (5, "->"), (5, ">"))
        self.is_cut("///", (5, "//"), (5, "/"))
        self.is_cut("**", (5, "*"), (5, "*"))
        self.is_cut("- >", (5, "-"), (5, ">"))
        self.is_cut("{}", (5, "{"), (5, "}"))

    def test_an_exclamation_mark_without_its_equals(self):
        self.is_fault("!", 1, 0)
        self.is_fault("a ! = b", 1, 2)
        self.is_fault("a!", 1, 1)
        self.is_fault("!!=", 1, 0)


class Order(TokenTest):
    def test_the_first_fault_from_the_left_is_told(self):
        self.is_fault("01 !", 1, 0)
        self.is_fault('a A "', 1, 2)
        self.is_fault('"\n', 1, 1)
        self.is_fault('a $ "', 1, 2)
        self.is_fault("# \x01\n!", 1, 2)

    def test_whether_it_is_a_program_is_not_asked(self):
        self.is_cut(") let 1", (5, ")"), (0, "let"), (3, "1"))
        self.is_cut("clear", (0, "clear"))
